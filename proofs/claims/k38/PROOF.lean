import PyProof.Rows.All
import Wide.All
import OpenK.AllK
import Wide.FinOn
import Lean
import PyProof.EqAt
import PyProof.EqKinds
import PyProof.TupleCall
import PyProof.StrLawsTight
import PyProof.Rows.StrJoin2
import PyProof.Rows.StrSplitJoin
import KE.KTab
import PyProof.ZipIter
import PyProof.Rows.TupIter
import PyProof.EnumMake
import PyProof.Rows.SortWalk
import PyProof.Rows.SortStr
import PyProof.ConsumeWalk
import KE.KRevSl
import KE.KTryMore
import PyProof.NsDelKeeps
import PyProof.NeKinds
import KE.KIntText
import KE.KDictLaws
import PyProof.DictIter
import PyProof.DictWalks
import PyProof.DictItems
import KE.KSortTup
import KE.KDictList
import PyProof.SetKind
import PyProof.SetRoads
import PyProof.Rows.SetFrom
import PyProof.CollectWalk
import PyProof.CollectIter
import PyProof.Rows.SortShell
import PyProof.Rows.MinMaxN
import KE.KNestM
import KE.KLam
import KE.KMinKey
import PyProof.Rows.CallKwBuiltin
import PyProof.DictTruth
import PyProof.MeetsDictList
import KE.KRevIter
import PyProof.P3In
import PySem.Challenge.RW_marchmend_k38_stands_led_on
set_option Elab.async false
set_option linter.all false
set_option maxRecDepth 100000
set_option maxHeartbeats 8000000
noncomputable section
open List (length_map mem_cons_self mem_cons_of_mem mem_cons getElem?_eq_getElem length_append all_eq_true map_cons size_toArray mem_singleton mem_map all_cons getElem?_set_ne getElem?_map lookup_cons getD_eq_getElem?_getD length_cons mem_append getElem?_append_left mem_of_getElem? getElem?_set_self append_nil map_map filterMap_cons getElem?_append_right length_set find?_cons map_append not_mem_nil mem_append_right mem_range nodup_cons append_assoc getElem_mem length_range nodup_append length_take replicate_succ any_eq_true getElem?_eq_none nodup_nil zip_cons_cons map_nil flatten_cons pairwise_cons countP_cons getElem?_of_mem all_append forIn_cons forIn_nil getElem?_drop mem_filter length_nil map_take find?_some)
open Nat (le_refl ne_of_lt le_trans zero_le lt_of_lt_of_le le_of_lt lt_irrefl ne_of_gt le_succ lt_succ_of_lt sub_self lt_of_le_of_lt min_le_right not_lt_zero mod_lt)
open PySem.Heap (get?_push_of_some lt_size get?_push_size size_push get?_update_self get?_update_other size_update)
open Array (length_toList getElem?_toList getD_eq_getD_getElem? forIn_toList)
open Int (toNat_natCast ofNat_lt)
open PySem renaming wpAny_bind→À,PyData→Â,wpAny_pure→Ã,Value→Æ,Shared→Ç,wpAny→Ë,sizeLine→Õ,tupleKeyHash→Ø,intKind→Ù,Program→Ü,starEach→â,wpAny_call_entry→å,wpAny_callSpecial?_slot→è,wpAny_holding→î,World→ï,wpAny_setField_rec→ð,mainGlobals→ù,wpAny_field→ý,Around→Ā,wpAny_newObj_type→Ą,rawInt→đ,wpAny_seqItems→ē,compareOp→ĕ,SetTable→ė,mem_of_lookup→ĝ,sysModules→Ħ,IsTupleKey→ħ,wpAny_attempt→ĩ,bootBuiltins→Ī,wpAny_setState_of→Ĭ,wpAny_isInstance→Ĳ,Builtin→Ĵ,wpAny_truthy_bool→Ķ,codeAny_builtin→ĺ,backTo→ľ,binaryOp→Ń,wpAny_mono→Ň,behindInMarks→Ŏ,wpAny_Call_Name_kw→Œ,pyNext→Ř,wpAny_typeNameOfWhole_keyiter→ţ,wpAny_of_eq→Ť,keywordEach→ť,wpAny_rule→Ũ,wpAny_specialOf→Ů,FuncData→ů,attributeBase→Ű,IsPair→ų,cLine→Ž,wpAny_typeOf→θ,wpAny_askSetting→μ,wpAny_setEntries_of→ω,wpAny_typeNameOf_keyiter→Ε,plainId_quiet→Ζ,NameKind→Η,assignEach→Μ,wpAny_pyIter_list→Χ,wpAny_newTuple→Ψ,wpAny_fieldsOf→Ω,wpAny_dictEntries→ac,isSubtype_stop→ae,firstArgMember→af,codeAny→ag,builtinLookup_eq_fast→aq,wpAny_forIn_list→aB,tupleKind→aC,scanBound→aD,sliceBounds→aM,wpAny_passesOwn→aS,tupleKind_room_in1→bg,slot_list_getitem→cO
open Option renaming map_eq_some_iff→Á,none_or→æ,bind_some→Ē,isSome_map→ő,isSome_iff_exists→Ż
open Bool renaming and_eq_true→Å,false_eq_true→Ý,false_ne_true→ú,not_eq_true'→Ŕ,not_true→Ţ,or_eq_true→τ
open PySem.Heap renaming get?_push_of_some→È,get?_push_size→Ô,lt_size→é,SameBut→ü,size_push→Ŀ,get?_update_self→Ő,get?_update_other→Ŷ
open List renaming getElem?_eq_some_iff→É,mem_cons_of_mem→Ê,mem_cons_self→Ì,getElem?_eq_getElem→Í,length_map→Ð,length_append→Ó,size_toArray→Ú,all_eq_true→Û,getD_eq_getElem?_getD→à,mem_singleton→ê,getElem?_append_left→ë,getElem?_set_ne→í,mem_cons→ñ,range→õ,getElem?_append_right→ö,map_cons→þ,replicate→Ă,getElem?_set_self→ą,mem_of_getElem?→ć,getElem?_map→Ĉ,lookup_cons→Ĕ,length_cons→Ė,filterMap_cons→Ę,toArray→Ġ,mem_append_right→ġ,all_cons→Ĩ,append_nil→Ĺ,mem_append→ŀ,length_set→Ł,not_mem_nil→Ņ,map_append→ň,find?_cons→Ŋ,mem_map→Ō,append_assoc→ō,getElem?_eq_none→ŝ,map_map→ŷ,mem_of_find?_eq_some→Ź,replicate_succ→δ,getElem_mem→ε,length_range→π,findIdx?_eq_some_iff_getElem→Β,zip_cons_cons→Θ,length_pos_of_mem→Ι,getElem?_of_mem→Κ,getElem?_toArray→Υ,mem_of_mem_drop→am,lookup→ao,map_congr_left→aE,getElem_of_mem→aF,getElem?_concat_length→aH,length_take→aN,getElem?_eq_none_iff→aX,nodup_cons→bL
open Nat renaming le_refl→Ò,lt_of_lt_of_le→ā,ne_of_lt→ĉ,le_trans→Ğ,zero_le→ķ,lt_succ_of_lt→ű,lt_of_le_of_lt→ž,le_of_lt→γ,lt_irrefl→ο,ne_of_gt→ai,le_add_right→aj
open PySem.SetTable renaming below→Ö,insertAt→ø,Probe→ě,grown→Ŗ
open PySem.W renaming Frag→Þ,findIn→ũ,kia_one→Ŭ,emptyDict→Ÿ,keepIn→Ξ
open PySem.Value renaming ref→ã,none→ó,bool→ŋ,type→Ο,int→Ρ
open Array renaming length_toList→ä,getElem?_eq_getElem→ç,getElem?_toList→ğ,getElem?_eq_some_iff→ĳ,getD_eq_getD_getElem?→ŕ
open PySem.PyData renaming eqv→ì,int→û,depthAll→ŏ,eqvAll→œ,tuple→Ŝ,none→ξ,list→Φ
open PySem.Builtin.SmallTypes renaming ownedTupleIsFree→ÿ,ownedTupleHandOut→aO
open PySem.NameKind renaming free→ă,cell→ŵ
open PySem.Str renaming ofString→Ċ
open PyProof.Rows renaming callWith_type1→ċ,seqObj→ī,IntsAre→Ļ,slot_tupleiter_next→aW
open LawfulBEq renaming eq_of_beq→Ď
open Option.some renaming inj→ď
open PySem.Heap.SameBut renaming update→ę
open PySem.SetTable.probe renaming go→Ě
open PySem.Obj renaming mapSeq→Ĝ,data_mapFields→aU
open List.cons renaming inj→Ģ,injEq→Ś
open PySem.Around renaming under_plainId→ĥ
open False renaming elim→ĭ
open True renaming intro→į
open Ne renaming symm→ń
open PySem.F renaming slot_zip_next→ŗ,slot_dict_keyiterator_next→Ū,slot_enumerate_next→ak,args_tuple_add_2→aV,plainAttrs_list→a8,plainAttrs_dict→a9,entry_tuple_add→ba
open PySem.Builtin.Tuple renaming tupleHashOf→Š,tupleExact→ū
open PySem.Builtin.Slice renaming slicePlaces→š,sliceAdjust→ah
open PySem.Builtin.List renaming listTooLong→ŭ,listExtendWith→Ν
open Int renaming le_refl→Ŵ,emod_lt_of_pos→Α,emod_nonneg→aG,toNat_of_nonneg→aI,toNat_natCast→aJ
open PySem.Shared renaming TypeIs→ź,mk→ν
open List.Perm renaming refl→ς
open PySem.Paired renaming length→Τ
open PySem.W.KasT renaming kasWp_bind→av
open PySem.AutoSeq1 renaming wpAny_loadPart'→aP
open PyProof.Rows.F renaming plain_set_update_loop→bv
namespace L2
open PySem PySem.Spec PyProof.Rows
theorem zl{n:Nat}(h:Nat.ble n 99=true:=by rfl):n<=Õ:=Ğ (Nat.le_of_ble_eq_true h) (by decide)
noncomputable abbrev Key:=Sum Int Str
noncomputable def qhm:Key->Æ->Bool
 |.inl k,v=>Value.isInt k v
 |.inr x,v=>Value.isStrOf x v
noncomputable def keyH(w:ï):Key->Int
 |.inl k=>hashInt k
 |.inr x=>hashStr w x
theorem yal:∀{k:Key}{v:Æ},qhm k v=true->(∃i t,k=Sum.inl i/\v=Ρ i t)\/(∃x t,k=Sum.inr x/\v=Value.str x t)
 |.inl i,v,h=>by
  obtain ⟨t,e⟩:=Value.isInt_shape (k:=i) (v:=v) h;exact .inl ⟨i,t,rfl,e⟩
 |.inr x,v,h=>by
  obtain ⟨t,e⟩:=Value.isStrOf_shape (x:=x) (v:=v) h;exact .inr ⟨x,t,rfl,e⟩
theorem qii(i:Int)(t:Tok):qhm (.inl i) (.int i t)=true:=by simp[qhm,Value.isInt]
theorem yjm(x:Str)(t:Tok):qhm (.inr x) (.str x t)=true:=by simp[qhm,Value.isStrOf]
theorem key_ll(a b:Int):decide ((Sum.inl a:Key)=Sum.inl b)=(a == b):=by
 by_cases e:a=b
 ·subst e;simp
 ·have h:¬ (Sum.inl a:Key)=Sum.inl b:=λq=>e (Sum.inl.inj q);rw[decide_eq_false h];exact (beq_eq_false_iff_ne.mpr e).symm
theorem key_rr(a b:Str):decide ((Sum.inr a:Key)=Sum.inr b)=decide (a=b):=by
 by_cases e:a=b
 ·subst e;simp
 ·have h:¬ (Sum.inr a:Key)=Sum.inr b:=λq=>e (Sum.inr.inj q);rw[decide_eq_false h,decide_eq_false e]
theorem key_lr(a:Int)(b:Str):decide ((Sum.inl a:Key)=Sum.inr b)=false:=decide_eq_false (λq=>nomatch q)
theorem key_rl(a:Str)(b:Int):decide ((Sum.inr a:Key)=Sum.inl b)=false:=decide_eq_false (λq=>nomatch q)
noncomputable def bR(prog:Ü)(w:ï):PySem.KeyKind prog w Key where
 is:=qhm
 hash:=keyH w
 inj:=λv a b ha hb=>by
  rcases yal ha with ⟨i,t,rfl,rfl⟩|⟨x,t,rfl,rfl⟩
  ·rcases yal hb with ⟨j,u,rfl,e⟩|⟨y,u,rfl,e⟩
   ·injection e with e1 _;rw[e1]
   ·exact nomatch e
  ·rcases yal hb with ⟨j,u,rfl,e⟩|⟨y,u,rfl,e⟩
   ·exact nomatch e
   ·injection e with e1 _;rw[e1]
 byValue:=λk v h=>by
  rcases yal h with ⟨i,t,rfl,rfl⟩|⟨x,t,rfl,rfl⟩<;>rfl
 pyHash:=λhv h=>by
  rcases yal hv with ⟨i,t,rfl,rfl⟩|⟨x,t,rfl,rfl⟩
  ·exact wpAny_pyHash_int h
  ·exact wpAny_pyHash_str h
 eqBool:=λhu hv h=>by
  rcases yal hu with ⟨i,t,rfl,rfl⟩|⟨x,t,rfl,rfl⟩
  ·rcases yal hv with ⟨j,u,rfl,rfl⟩|⟨y,u,rfl,rfl⟩
   ·rw[key_ll]at h;exact wpAny_eqBool_int h
   ·rw[key_lr]at h;exact SeqAt.EqAt.int_str i t y u _ _ _ _ h
  ·rcases yal hv with ⟨j,u,rfl,rfl⟩|⟨y,u,rfl,rfl⟩
   ·rw[key_rl]at h;exact SeqAt.EqAt.str_int x t j u _ _ _ _ h
   ·rw[key_rr]at h;exact wpAny_eqBool_str h
 «strs»:=λk x t v h=>by
  rcases yal h with ⟨i,u,rfl,e⟩|⟨y,u,rfl,e⟩
  ·exact nomatch e
  ·injection e with e1 _;subst e1;cases v<;>rfl
theorem yfx(prog:Ü)(w:ï)(i:Int)(t:Tok):(bR prog w).is (.inl i) (.int i t)=true:=qii i t
theorem yfv(prog:Ü)(w:ï)(x:Str)(t:Tok):(bR prog w).is (.inr x) (.str x t)=true:=yjm x t
end L2
namespace L2
open PySem PySem.Spec PyProof.Rows
inductive V where
 |non|bl (b:Bool)|int (i:Int)|str (x:Str)|byt (b:Array UInt8)|flt (b:UInt64)|ref (a:Addr)|ty (n:String)
 deriving DecidableEq
noncomputable def RelV:V->Æ->Prop
 |.non,u=>u=ó
 |.bl b,u=>u=ŋ b
 |.int i,u=>∃t,u=Ρ i t
 |.str x,u=>∃t,u=Value.str x t
 |.byt b,u=>∃t,u=Value.bytes b t
 |.flt b,u=>∃t,u=Value.float b t
 |.ref a,u=>u=ã a
 |.ty n,u=>u=Ο n
noncomputable abbrev Vals:List V->List Æ->Prop:=Paired RelV
theorem Vals.length(r:Vals xs us):xs.length=us.length:=Τ r
theorem Vals.get:∀{xs:List V}{us:List Æ}{i:Nat}{x:V},Vals xs us->xs[i]?=some x->∃u,us[i]?=some u/\RelV x u
 |_,_,_,_,.nil,e=>by simp at e
 |_,_,0,_,.cons r _,e=>by simp at e;subst e;exact ⟨_,rfl,r⟩
 |_,_,i+1,x,.cons _ t,e=>by
  obtain ⟨u,h1,h2⟩:=Vals.get (i:=i) (x:=x) t (by simpa using e);exact ⟨u,by simpa using h1,h2⟩
theorem Vals.set(r:RelV x u):∀{xs:List V}{us:List Æ} (i:Nat),Vals xs us->Vals (xs.set i x) (us.set i u)
 |_,_,_,.nil=>.nil
 |_,_,0,.cons _ t=>.cons r t
 |_,_,i+1,.cons q t=>.cons q (Vals.set r i t)
theorem Vals.append:∀{xs ys:List V}{us ws:List Æ},Vals xs us->Vals ys ws->Vals (xs++ys) (us++ws)
 |_,_,_,_,.nil,s=>s
 |_,_,_,_,.cons r t,s=>.cons r (Vals.append t s)
theorem Vals.take:∀{xs:List V}{us:List Æ} (n:Nat),Vals xs us->Vals (xs.take n) (us.take n)
 |_,_,0,_=>.nil
 |_,_,_+1,.nil=>.nil
 |_,_,n+1,.cons r t=>.cons r (Vals.take n t)
theorem Vals.drop:∀{xs:List V}{us:List Æ} (n:Nat),Vals xs us->Vals (xs.drop n) (us.drop n)
 |_,_,0,r=>r
 |_,_,_+1,.nil=>.nil
 |_,_,n+1,.cons _ t=>Vals.drop n t
noncomputable def RelO:Option V->Option Æ->Prop
 |some v,some u=>RelV v u
 |none,none=>True
 |_,_=>False
noncomputable def KV{κ:Type}:List (κ×V)->List (κ×Æ)->Prop:=Paired λ(p:κ×V) (q:κ×Æ)=>p.1=q.1/\RelV p.2 q.2
noncomputable def kV:Key->V
 |.inl i=>.int i
 |.inr x=>.str x
inductive HO where
 |lst (xs:List V)
 |tup (xs:List V)
 |dK (kvs:List (Key×V))|dT (kvs:List (List Key×V))
 |set (S:Int->Bool) (n:Nat)
 |ins (C dx:Addr) (fs:List (Str×V))
 |own (x:Addr)
 |xd (fs:List (Str×V))
 |met (f x:Addr)
 |rng (lo hi:Int)
 |frz (o:Obj) (u:HO)
 |tbl (ps:Array Æ)
 |ext (φ:Heap->Prop)
noncomputable abbrev Hp:=Addr->Option HO
noncomputable def upd(H:Hp)(a:Addr)(o:HO):Hp:=λb=>if b=a then some o else H b
theorem bB:upd H a o a=some o:=by unfold upd;rw[if_pos rfl]
theorem Δ(h:b≠a):upd H a o b=H b:=by unfold upd;rw[if_neg h]
theorem ne_of{H:Hp}{a b:Addr}{o u:HO}(h:H a=some o)(h':H b=some u)(d:o≠u):a≠b:=by
 intro e;subst e;rw[h]at h';exact d (ď h')
theorem qan{H:Hp}{a b:Addr}{o:HO}(h:H a=some o)(h':H b=none):a≠b:=by
 intro e;subst e;rw[h]at h';cases h'
section
variable (P:Ü) (w:ï)
noncomputable def bh(H:Hp)(h:Heap)(a:Addr):HO->Prop
 |.lst xs=>xs.length<=Õ/\∃(its:List Æ) (n:Nat),Vals xs its/\h.get? a=some { cls:=.type "list",data:=.seq its.toArray n }
 |.tup xs=>xs.length<=Õ/\∃its:List Æ,Vals xs its/\IsTup h a its.toArray
 |.dK kvs=>kvs.length<=Õ/\(a == Ħ)=false/\∃vs,KV kvs vs/\h.DictOf (bR P w) a vs
 |.dT kvs=>kvs.length<=Õ/\(a == Ħ)=false/\∃xs:List (List Key×Addr×Æ),
   Paired (λ(p:List Key×V) (q:List Key×Addr×Æ)=>p.1=q.1/\H q.2.1=some (.tup (p.1.map kV))/\RelV p.2 q.2.2) kvs xs/\
   ∃o es ep,h.get? a=some o/\o.ExactDict/\o.data=.dict es ep/\es.toList=xs.map (entryOfKey (aC (bR P w)))/\(xs.map (·.1)).Nodup
 |.set S n=>h.SetOf (Ù P w) a S n
 |.ins C dx fs=>H dx=some (.own a)/\fs.length<=1000/\dx≠a/\h.get? a=some (W.instObj C dx)/\
   ∃mA,h.Ns1 dx mA/\(∀f,RelO (fs.lookup f) (mA f))/\PySem.Within mA (fs.map (·.1))
 |.own _=>∃o,h.get? a=some o
 |.xd fs=>∃mA,h.Ns1 a mA/\∀f,RelO (fs.lookup f) (mA f)
 |.rng lo hi=>∃t u v,h.get? a=some { cls:=.type "range",data:=.fields #[.int lo t,.int hi u,.int 1 v] }
 |.frz o u=>h.get? a=some o/\bh H h a u
 |.tbl ps=>h.get? a=some { cls:=.none,data:=.fields ps }
 |.met f x=>h.get? a=some (W.methodObj (.ref f) (.ref x))
 |.ext φ=>φ h/\(∃o,h.get? a=some o)/\∀h1 h2:Heap,φ h1->(∀o,h1.get? a=some o->h2.get? a=some o)->φ h2
noncomputable def HOk(H:Hp)(h:Heap):Prop:=∀a o,H a=some o->bh P w H h a o
end
section
variable {P:Ü}{w:ï}{H H':Hp}{h h':Heap}{a:Addr}{o:HO}
theorem bh.lt(x:bh P w H h a o):a<h.objs.size:=by
 cases o with
 |lst xs=>obtain ⟨_,_,_,_,e⟩:=x;exact é e
 |tup xs=>obtain ⟨_,_,_,p⟩:=x;exact p.lt
 |dK kvs=>obtain ⟨_,_,_,_,o,_,_,e,_⟩:=x;exact é e
 |dT kvs=>obtain ⟨_,_,_,_,o,_,_,e,_⟩:=x;exact é e
 |set S n=>obtain ⟨o,_,_,_,e,_⟩:=x;exact é e
 |ins C dx fs=>obtain ⟨_,_,_,e,_⟩:=x;exact é e
 |own y=>obtain ⟨_,e⟩:=x;exact é e
 |xd fs=>obtain ⟨_,⟨_,_,_,e,_⟩,_⟩:=x;exact é e
 |rng lo hi=>obtain ⟨_,_,_,e⟩:=x;exact é e
 |frz ob u=>obtain ⟨e,_⟩:=x;exact é e
 |tbl ps=>exact é (show h.get? a=some _ from x)
 |met f y=>exact é (show h.get? a=some _ from x)
 |ext φ=>obtain ⟨_,⟨_,e⟩,_⟩:=x;exact é e
theorem Paired.mapP:∀{l₁:List α}{l₂:List β},Paired F l₁ l₂->(∀a b,F a b->G a b)->Paired G l₁ l₂
 |_,_,.nil,_=>.nil
 |_,_,.cons r t,f=>.cons (f _ _ r) (Paired.mapP t f)
theorem bh.stay(x:bh P w H h a o)(k:∀b u,(b=a\/H b=some (.own a))->h.get? b=some u->h'.get? b=some u)
  (ho:∀b,H b=some (.own a)->H' b=some (.own a)) (ht:∀b xs,H b=some (.tup xs)->H' b=some (.tup xs)):bh P w H' h' a o:=by
 induction o with
 |lst xs=>obtain ⟨z,its,n,r,e⟩:=x;exact ⟨z,its,n,r,k _ _ (.inl rfl) e⟩
 |tup xs=>obtain ⟨z,its,r,ob,e,c⟩:=x;exact ⟨z,its,r,ob,k _ _ (.inl rfl) e,c⟩
 |dK kvs=>obtain ⟨z,y,vs,r,ob,es,ep,e,c⟩:=x;exact ⟨z,y,vs,r,ob,es,ep,k _ _ (.inl rfl) e,c⟩
 |dT kvs=>
  obtain ⟨z,y,xs,r,ob,es,ep,e,c⟩:=x;exact ⟨z,y,xs,Paired.mapP r λp q z=>⟨z.1,ht _ _ z.2.1,z.2.2⟩,ob,es,ep,k _ _ (.inl rfl) e,c⟩
 |set S n=>obtain ⟨ob,es,ep,t,e,c⟩:=x;exact ⟨ob,es,ep,t,k _ _ (.inl rfl) e,c⟩
 |ins C dx fs=>
  obtain ⟨d,z,ne,e,mA,⟨od,es,ep,e2,c⟩,r⟩:=x;exact ⟨ho _ d,z,ne,k _ _ (.inl rfl) e,mA,⟨od,es,ep,k _ _ (.inr d) e2,c⟩,r⟩
 |own y=>obtain ⟨ob,e⟩:=x;exact ⟨ob,k _ _ (.inl rfl) e⟩
 |xd fs=>obtain ⟨mA,⟨od,es,ep,e,c⟩,r⟩:=x;exact ⟨mA,⟨od,es,ep,k _ _ (.inl rfl) e,c⟩,r⟩
 |rng lo hi=>obtain ⟨t,u,v,e⟩:=x;exact ⟨t,u,v,k _ _ (.inl rfl) e⟩
 |frz ob u ih=>obtain ⟨e,q⟩:=x;exact ⟨k _ _ (.inl rfl) e,ih q⟩
 |tbl ps=>
  have e:h.get? a=some { cls:=.none,data:=.fields ps }:=x;show h'.get? a=some { cls:=.none,data:=.fields ps };exact k a _ (.inl rfl) e
 |met f y=>
  have e:h.get? a=some (W.methodObj (.ref f) (.ref y)):=x;show h'.get? a=some (W.methodObj (.ref f) (.ref y));exact k a _ (.inl rfl) e
 |ext φ=>obtain ⟨p,⟨o,e⟩,st⟩:=x;exact ⟨st _ _ p λo q=>k _ _ (.inl rfl) q,⟨o,k _ _ (.inl rfl) e⟩,st⟩
theorem HOk.lt(x:HOk P w H h)(e:H a=some o):a<h.objs.size:=(x a o e).lt
theorem HOk.fresh(x:HOk P w H h)(e:h.objs.size<=a):H a=none:=by
 cases q:H a with
 |none=>rfl
 |some u=>exact absurd (ā (x.lt q) e) (ο _)
theorem HOk.kept(x:HOk P w H h)(k:∀b u,h.get? b=some u->h'.get? b=some u):HOk P w H h':=λa o e=>
 (x a o e).stay (λb u _ q=>k b u q) (λ_ q=>q) λ_ _ q=>q
theorem HOk.laid(x:HOk P w H h)(k:∀b u,h.get? b=some u->h'.get? b=some u)(hp:h.objs.size<=a)(new:bh P w (upd H a o) h' a o):HOk P w (upd H a o) h':=λb u e=>by
 have hn:=x.fresh hp;by_cases hb:b=a
 ·subst hb;rw[bB]at e;cases e;exact new
 ·rw[Δ hb]at e;exact (x b u e).stay (λc v _ q=>k c v q) (λc q=>by rw[Δ (qan q hn)];exact q) λc xs q=>by rw[Δ (qan q hn)];exact q
end
noncomputable def Rd(H:Hp)(a:Addr)(u:HO):Prop:=H a=some u\/∃o,H a=some (.frz o u)
theorem Rd.ok(r:Rd H a u)(x:HOk P w H h):bh P w H h a u:=by
 rcases r with r|⟨o,r⟩
 ·exact x a u r
 ·obtain ⟨_,q⟩:=x a _ r;exact q
noncomputable def Mut:Option HO->Prop
 |some (.lst _)=>True
 |some (.dK _)=>True
 |some (.dT _)=>True
 |some (.set _ _)=>True
 |some (.ins _ _ _)=>True
 |some (.ext _)=>True
 |_=>False
section
variable {P:Ü}{w:ï}{H:Hp}{h h':Heap}{x e:Addr}{o':HO}
theorem HOk.write(ok:HOk P w H h)(mu:Mut (H x))(he:e=x\/H e=some (.own x))(k:∀b u,b≠e->h.get? b=some u->h'.get? b=some u)(heo:∃u,h'.get? e=some u)
  (new:bh P w (upd H x o') h' x o'):HOk P w (upd H x o') h':=λb u q=>by
 have nown:∀c y,H c=some (.own y)->c≠x:=λc y r z=>by subst z;rw[r]at mu;exact mu
 have ntup:∀c xs,H c=some (.tup xs)->c≠x:=λc xs r z=>by subst z;rw[r]at mu;exact mu
 by_cases hb:b=x
 ·subst hb;rw[bB]at q;cases q;exact new
 ·rw[Δ hb]at q;by_cases hbe:b=e
  ·have q':H b=some (.own x):=by
    rcases he with z|z
    ·exact absurd (hbe.trans z) hb
    ·rw[hbe];exact z
   rw[q]at q';cases q';obtain ⟨v,hv⟩:=heo;exact ⟨v,by rw[hbe];exact hv⟩
  ·refine (ok b u q).stay (λc v hc r=>k c v ?_ r) (λc r=>by rw[Δ (nown c b r)];exact r) λc xs r=>by rw[Δ (ntup c xs r)];exact r
   rcases hc with rfl|hc
   ·exact hbe
   ·rintro rfl;rcases he with z|z
    ·exact nown c b hc z
    ·rw[hc]at z;cases z;exact hb rfl
end
structure Un(fs ex:List Addr)(H H':Hp)(h h':Heap):Prop where
 keep:∀b o,h.get? b=some o->H b=none->b∉fs->b∉ex->h'.get? b=some o
 slot:∀b o,h.get? b=some o->H b=none->b∈fs->b∉ex->∃sl,h'.get? b=some { o with slots:=sl }
 free:∀b o,h.get? b=some o->H b=none->b∉ex->H' b=none
 there:∀b o,h.get? b=some o->b∉ex->∃o',h'.get? b=some o'
 tups:∀b xs,H b=some (.tup xs)->H' b=some (.tup xs)
 frzs:∀b o u,H b=some (.frz o u)->H' b=some (.frz o u)
 tbls:∀b ps,H b=some (.tbl ps)->∃more,H' b=some (.tbl (ps++more))
section
variable {fs fs' ex ex':List Addr}{H H1 H2:Hp}{h h1 h2 h':Heap}{a x e:Addr}{o:HO}
theorem Un.any(u:Un fs ex H H1 h h1){b:Addr}{ob:Obj}(q:h.get? b=some ob)(n:H b=none)(hx:b∉ex):∃sl,h1.get? b=some { ob with slots:=sl }:=by
 by_cases hb:b∈fs
 ·exact u.slot b ob q n hb hx
 ·exact ⟨ob.slots,u.keep b ob q n hb hx⟩
theorem Un.kept(k:∀b u,h.get? b=some u->h'.get? b=some u):Un fs ex H H h h':=
 ⟨λb ob q _ _ _=>k b ob q,λb ob q _ _ _=>⟨ob.slots,k b ob q⟩,λ_ _ _ n _=>n,λb ob q _=>⟨ob,k b ob q⟩,λ_ _ q=>q,λ_ _ _ q=>q,λ_ ps q=>⟨#[],by rw[q];simp⟩⟩
theorem Un.refl:Un fs ex H H h h:=Un.kept λ_ _ q=>q
theorem Un.laid(k:∀b u,h.get? b=some u->h'.get? b=some u)(hp:h.objs.size<=a)(hn:H a=none):Un fs ex H (upd H a o) h h' where
 keep:=λb u q _ _ _=>k b u q
 slot:=λb u q _ _ _=>⟨u.slots,k b u q⟩
 free:=λb u q n _=>by rw[Δ (ĉ (ā (é q) hp))];exact n
 there:=λb u q _=>⟨u,k b u q⟩
 tups:=λb xs q=>by rw[Δ (qan q hn)];exact q
 frzs:=λb u xs q=>by rw[Δ (qan q hn)];exact q
 tbls:=λb ps q=>⟨#[],by rw[Δ (qan q hn),q];simp⟩
theorem Un.write(mu:Mut (H x))(he:e=x\/H e=some (.own x))(k:∀b u,b≠e->h.get? b=some u->h'.get? b=some u)(heo:∃u,h'.get? e=some u):Un fs ex H (upd H x o) h h':=by
 have hx:∀b,H b=none->b≠x:=λb n z=>by subst z;rw[n]at mu;exact mu
 have hb:∀b,H b=none->b≠e:=λb n z=>by
  subst z;rcases he with r|r
  ·exact hx b n r
  ·rw[n]at r;cases r
 have hm:∀b u,H b=some u->¬ Mut (some u)->b≠x:=λb u q nm z=>by subst z;rw[q]at mu;exact nm mu
 refine ⟨λb u q n _ _=>k b u (hb b n) q,λb u q n _ _=>⟨u.slots,k b u (hb b n) q⟩,λb u q n _=>by rw[Δ (hx b n)];exact n,λb u q _=>?_,
  λb xs q=>by rw[Δ (hm b _ q λz=>z)];exact q,λb u xs q=>by rw[Δ (hm b _ q λz=>z)];exact q,λb ps q=>⟨#[],by rw[Δ (hm b _ q λz=>z),q];simp⟩⟩
 by_cases hbe:b=e
 ·subst hbe;exact heo
 ·exact ⟨u,k b u hbe q⟩
end
noncomputable def trk(h:Heap)(H:Hp):List Addr:=(õ h.objs.size).filter λa=>(H a).isSome
noncomputable def cM(h:Heap)(H:Hp):Heap:=W.hideAll h (trk h H)
theorem yjb(h:Heap)(H:Hp):(cM h H).objs.size=h.objs.size:=W.hideAll_size _ _
theorem hidT_get(e:h.get? b=some o)(n:H b=none):(cM h H).get? b=some o:=
 W.hideAll_get _ e λhm=>by
  have q:(H b).isSome=true:=(mem_filter.mp hm).2;rw[n]at q;simp at q
theorem of_hidT(e:(cM h H).get? b=some o):h.get? b=some o/\H b=none:=by
 have e':h.get? b=some o:=W.of_hideAll (trk h H) e;refine ⟨e',?_⟩;cases q:H b with
 |none=>rfl
 |some x=>
  have hm:b∈trk h H:=mem_filter.mpr ⟨mem_range.mpr (é e'),by simp[q]⟩;have z:(cM h H).get? b=none:=W.hideAll_none (trk h H) hm;rw[z]at e;cases e
structure Mod(K:Þ)(mg:Str->Option Æ)(base:Heap):Prop where
 kin:K.In base
 glob:base.Ns ù mg
 blt:∃mb,base.Ns builtinsNs mb/\∀x:Str,x≠"__name__"->mb x=Ī x
 nolimit:base.NoLimit
structure Cx where
 prog:Ü
 w:ï
 K:Þ
 mg:Str->Option Æ
 base:Heap
 A:Ā
 N:List Str
 s₀:Ç
 H₀:Hp
 env:Env
 outer:List Env
 stack:List Env
 ex:List Addr
 fn:Str->Bool
 calm:Bool
 pn:List (Addr×Obj)
 xe:Æ->Ç->Prop
noncomputable def frs(l:List Env):List Addr:=l.filterMap (·.frame)
noncomputable abbrev Cx.fs(X:Cx):List Addr:=frs X.outer
noncomputable def Vis(sc:Scope)(x:Str):Prop:=sc.names.lookup x=some .local\/sc.names.lookup x=some .cell\/sc.names.lookup x=some .free
noncomputable def Loc(sc:Scope)(x:Str):Prop:=sc.names.lookup x=some .local\/sc.names.lookup x=some .cell
noncomputable def Look(env:Env)(h:Heap)(m:Str->Option Æ)(x:Str)(u:Æ):Prop:=
 (env.kindOf x=some .local/\m x=some u)\/((env.kindOf x=some .cell\/env.kindOf x=some .free)/\∃c,env.cells.lookup x=some c/\h.IsCell c (some u))
structure Cx.Ok(X:Cx):Prop where
 mod:Mod X.K X.mg X.base
 kind:X.env.scope.kind=.function
 glob:X.env.globals=ù
 blt:X.env.builtins=builtinsNs
 above:X.s₀.heap.objs.size<=X.env.locals
 inj:∀x y c,X.env.cells.lookup x=some c->X.env.cells.lookup y=some c->x=y
 has:∀x,(X.env.kindOf x=some .cell\/X.env.kindOf x=some .free)->∃c,X.env.cells.lookup x=some c
 cab:∀x c,X.fn x=true->X.env.cells.lookup x=some c->X.s₀.heap.objs.size<=c
 hd:X.calm=true->X.A.handled=none
 frames:X.A.frames=some X.stack
 stk:X.stack=X.outer\/(X.stack=X.env::X.outer/\X.env.frame=some X.env.locals)
 exf:∀b∈X.ex,b≠X.env.locals/\∀x c,X.env.cells.lookup x=some c->c≠b
 bs:∀b o,X.base.get? b=some o->X.s₀.heap.get? b=some o/\X.H₀ b=none
 bsz:X.base.objs.size<=X.s₀.heap.objs.size
 noex:∀b o,X.base.get? b=some o->b∉X.ex
 exfs:∀b∈X.ex,b∉X.fs
 funs:X.s₀.heap.FunFrames X.base X.outer
 frf:∀b∈X.fs,X.H₀ b=none
structure Inv(X:Cx)(pins:List (Addr×Obj))(σ:List (Option V))(H:Hp)(s:Ç):Prop where
 ok:X.Ok
 os:s.os=X.s₀.os
 bare:AllBare s.gens
 base:Un X.fs X.ex X.H₀ H X.s₀.heap s.heap
 loc:∃m,s.heap.Ns X.env.locals m/\∀(i:Nat) (x:Str) (v:V),X.N[i]?=some x->σ[i]?=some (some v)->Vis X.env.scope x->∃u,RelV v u/\Look X.env s.heap m x u
 cell:∀x c,X.env.cells.lookup x=some c->∃v,s.heap.IsCell c v
 free:H X.env.locals=none
 freeC:∀x c,X.env.cells.lookup x=some c->H c=none
 pin:∀p∈X.pn++pins,s.heap.get? p.1=some p.2/\H p.1=none/\p.1≠X.env.locals/\p.1∉X.fs/\∀v,p.2.data≠.cell v
 hok:HOk X.prog X.w H s.heap
 len:σ.length=X.N.length
section
variable {X:Cx}{pins:List (Addr×Obj)}{σ:List (Option V)}{H H':Hp}{s:Ç}{h':Heap}
theorem Cx.Ok.nofr(ok:X.Ok){b:Addr}{o:Obj}(e:X.base.get? b=some o):b∉X.fs:=λhb=>by
 have:=(ok.funs.mem hb).1;rw[e]at this;cases this
theorem Inv.bs(I:Inv X pins σ H s):∀b o,X.base.get? b=some o->s.heap.get? b=some o/\H b=none:=λb o e=>
 ⟨I.base.keep b o (I.ok.bs b o e).1 (I.ok.bs b o e).2 (I.ok.nofr e) (I.ok.noex b o e),I.base.free b o (I.ok.bs b o e).1 (I.ok.bs b o e).2 (I.ok.noex b o e)⟩
theorem Inv.bk(I:Inv X pins σ H s):∀b o,X.base.get? b=some o->s.heap.get? b=some o:=λb o e=>(I.bs b o e).1
theorem Inv.mod(I:Inv X pins σ H s):Mod X.K X.mg X.base:=I.ok.mod
theorem Inv.kIn(I:Inv X pins σ H s):X.K.In s.heap:=I.ok.mod.kin.keeps I.bk
theorem Inv.fr(I:Inv X pins σ H s):∃m,Fr X.base X.env.locals s.heap m:=
 let ⟨m,hn,_⟩:=I.loc
 ⟨m,hn,I.bk,Ğ I.ok.bsz I.ok.above⟩
theorem Inv.lt(I:Inv X pins σ H s):X.env.locals<s.heap.objs.size:=let ⟨_,hn,_⟩:=I.loc;hn.lt
theorem Inv.sz(I:Inv X pins σ H s):X.s₀.heap.objs.size<=s.heap.objs.size:=Ğ I.ok.above (γ I.lt)
theorem Inv.nofs(I:Inv X pins σ H s){a:Addr}(h:s.heap.objs.size<=a):a∉X.fs:=λhb=>by
 obtain ⟨_,o,ho,_⟩:=I.ok.funs.mem hb;exact absurd (ā (é ho) (Ğ I.sz h)) (ο _)
theorem Inv.cne(I:Inv X pins σ H s):∀x c,X.env.cells.lookup x=some c->c≠X.env.locals:=λx c e z=>by
 obtain ⟨v,o,ho,hd⟩:=I.cell x c e;obtain ⟨m,⟨o',es,ep,ho',hd',_⟩,_⟩:=I.loc;rw[z,ho']at ho;cases ho;rw[hd']at hd;cases hd
theorem Inv.funs(I:Inv X pins σ H s):s.heap.FunFrames X.base X.outer:=by
 have all:∀(l:List Env),(∀b∈frs l,b∈X.fs)->X.s₀.heap.FunFrames X.base l->s.heap.FunFrames X.base l:=by
  intro l;induction l with
  |nil=>intro _ _;trivial
  |cons env r ih=>
   intro hs hl;obtain ⟨hk,⟨L,o,hf,hn,ho,hd⟩,hr⟩:=hl;have hL:L∈X.fs:=hs L (by unfold frs;rw[Ę,hf];exact Ì);obtain ⟨sl,e⟩:=I.base.slot L o ho (I.ok.frf L hL) hL λz=>I.ok.exfs L z hL;exact ⟨hk,⟨L,_,hf,hn,e,hd⟩,ih (λb hb=>hs b (by unfold frs;rw[Ę,hf];exact Ê _ hb)) hr⟩
 exact all X.outer (λ_ hb=>hb) I.ok.funs
theorem Inv.stack(I:Inv X pins σ H s):s.heap.FunFrames X.base X.stack:=by
 rcases I.ok.stk with e|⟨e,hf⟩
 ·rw[e];exact I.funs
 ·rw[e];obtain ⟨m,hn,_⟩:=I.loc;refine .cons (by rw[I.ok.kind];decide) hf hn ?_ I.funs;exact Heap.get?_none_of_le (Ğ I.ok.bsz I.ok.above)
theorem Inv.stkSub(I:Inv X pins σ H s):∀b∈frs X.stack,b∈X.env.locals::X.fs:=λb hb=>by
 rcases I.ok.stk with e|⟨e,hf⟩
 ·rw[e]at hb;exact Ê _ hb
 ·rw[e]at hb;unfold frs at hb;rw[Ę,hf]at hb;exact hb
theorem Inv.stkFree(I:Inv X pins σ H s):∀b∈frs X.stack,H b=none:=λb hb=>by
 rcases ñ.mp (I.stkSub b hb) with e|hb
 ·rw[e];exact I.free
 ·obtain ⟨_,o,ho,_⟩:=I.ok.funs.mem hb;exact I.base.free b o ho (I.ok.frf b hb) λz=>I.ok.exfs b z hb
theorem Inv.step{g':Array GenState}{t':Nat}{d':Drawn}{ch:List Addr}(I:Inv X pins σ H s)
  (hch:∀b∈ch,(b∈X.ex\/X.s₀.heap.objs.size<=b)/\b≠X.env.locals/\(∀x c,X.env.cells.lookup x=some c->c≠b)/\∀p∈X.pn++pins,p.1≠b)
  (keep:∀b o,b≠X.env.locals->b∉X.fs->b∉ch->s.heap.get? b=some o->H b=none->h'.get? b=some o)
  (slot:∀b o,b≠X.env.locals->b∈X.fs->b∉ch->s.heap.get? b=some o->H b=none->∃sl,h'.get? b=some { o with slots:=sl }) (free:∀b o,b∉ch->s.heap.get? b=some o->H b=none->H' b=none)
  (there:∀b o,b∉ch->s.heap.get? b=some o->∃o',h'.get? b=some o')
  (tups:∀b xs,H b=some (.tup xs)->H' b=some (.tup xs)) (frzs:∀b o u,H b=some (.frz o u)->H' b=some (.frz o u)) (tbls:∀b ps,H b=some (.tbl ps)->∃more,H' b=some (.tbl (ps++more)))
  (ns:∀m,s.heap.Ns X.env.locals m->h'.Ns X.env.locals m) (hok:HOk X.prog X.w H' h') (hg:AllBare g') :
  Inv X pins σ H' { s with heap:=h',gens:=g',drawn:=d',toks:=t' }:=by
 have neL:∀b o,X.s₀.heap.get? b=some o->b≠X.env.locals:=λb o e=>ĉ (ā (é e) I.ok.above);have neC:∀b o,X.s₀.heap.get? b=some o->b∉X.ex->b∉ch:=λb o e hx hb=>by
  rcases (hch b hb).1 with z|z
  ·exact hx z
  ·exact absurd (ā (é e) z) (ο _)
 have cellK:∀x c,X.env.cells.lookup x=some c->∀v,s.heap.IsCell c v->h'.IsCell c v:=λx c e v ⟨o,ho,hd⟩=>by
  have nch:c∉ch:=λz=>(hch c z).2.2.1 x c e rfl;by_cases hc:c∈X.fs
  ·obtain ⟨sl,q⟩:=slot c o (I.cne x c e) hc nch ho (I.freeC x c e);exact ⟨_,q,hd⟩
  ·exact ⟨o,keep c o (I.cne x c e) hc nch ho (I.freeC x c e),hd⟩
 refine ⟨I.ok,I.os,hg,⟨λb o e n hb hx=>?_,λb o e n hb hx=>?_,λb o e n hx=>?_,λb o e hx=>?_,λb xs e=>tups b xs (I.base.tups b xs e),λb o xs e=>frzs b o xs (I.base.frzs b o xs e),λb ps e=>?_⟩,?_,λx c e=>?_,?_,λx c e=>?_,λp hp=>?_,hok,I.len⟩
 ·exact keep b o (neL b o e) hb (neC b o e hx) (I.base.keep b o e n hb hx) (I.base.free b o e n hx)
 ·obtain ⟨sl,e1⟩:=I.base.slot b o e n hb hx;obtain ⟨sl',e2⟩:=slot b _ (neL b o e) hb (neC b o e hx) e1 (I.base.free b o e n hx);exact ⟨sl',e2⟩
 ·obtain ⟨o',e1⟩:=I.base.there b o e hx;exact free b o' (neC b o e hx) e1 (I.base.free b o e n hx)
 ·obtain ⟨o',e1⟩:=I.base.there b o e hx;exact there b o' (neC b o e hx) e1
 ·obtain ⟨m1,e1⟩:=I.base.tbls b ps e;obtain ⟨m2,e2⟩:=tbls b _ e1;exact ⟨m1++m2,by rw[e2,Array.append_assoc]⟩
 ·obtain ⟨m,hn,hl⟩:=I.loc;refine ⟨m,ns m hn,λi x v e1 e2 e3=>?_⟩;obtain ⟨u,r,l⟩:=hl i x v e1 e2 e3;refine ⟨u,r,?_⟩;rcases l with l|⟨k,c,e,z⟩
  ·exact .inl l
  ·exact .inr ⟨k,c,e,cellK x c e _ z⟩
 ·obtain ⟨v,z⟩:=I.cell x c e;exact ⟨v,cellK x c e v z⟩
 ·obtain ⟨m,⟨o,_,_,ho,_⟩,_⟩:=I.loc;exact free _ o (λz=>(hch _ z).2.1 rfl) ho I.free
 ·obtain ⟨v,o,ho,hd⟩:=I.cell x c e;exact free c o (λz=>(hch c z).2.2.1 x c e rfl) ho (I.freeC x c e)
 ·obtain ⟨e,n,ne,nf,d⟩:=I.pin p hp;have nch:p.1∉ch:=λz=>(hch p.1 z).2.2.2 p hp rfl;exact ⟨keep p.1 p.2 ne nf nch e n,free p.1 p.2 nch e n,ne,nf,d⟩
theorem Inv.un{t':Nat}(I:Inv X pins σ H s)(u:Un X.fs [] H H' s.heap h')(hok:HOk X.prog X.w H' h'):Inv X pins σ H' { s with heap:=h',toks:=t' }:=by
 obtain ⟨m,⟨o,es,ep,ho,r⟩,_⟩:=id I.loc;obtain ⟨sl,hL⟩:=u.any ho I.free (by simp);exact I.step (g':=s.gens) (d':=s.drawn) (ch:=[]) (λ_ z=>nomatch z) (λb o _ hb _ e n=>u.keep b o e n hb (by simp)) (λb o _ hb _ e n=>u.slot b o e n hb (by simp)) (λb o _ e n=>u.free b o e n (by simp)) (λb o _ e=>u.there b o e (by simp)) u.tups u.frzs u.tbls (λm' hm=>by
  obtain ⟨o',es',ep',ho',r'⟩:=hm;rw[ho]at ho';cases ho';exact ⟨_,es',ep',hL,r'⟩) hok I.bare
theorem Inv.call{g':Array GenState}{t':Nat}{d':Drawn}{ch:List Addr}(I:Inv X pins σ H s)(u:Un (frs X.stack) ch H H' s.heap h')(hok:HOk X.prog X.w H' h')(hg:AllBare g')
  (hch:∀b∈ch,(b∈X.ex\/X.s₀.heap.objs.size<=b)/\b≠X.env.locals/\(∀x c,X.env.cells.lookup x=some c->c≠b)/\∀p∈X.pn++pins,p.1≠b) :
  Inv X pins σ H' { s with heap:=h',gens:=g',drawn:=d',toks:=t' }:=by
 obtain ⟨m,⟨o,es,ep,ho,r⟩,_⟩:=id I.loc;obtain ⟨sl,hL⟩:=u.any ho I.free λz=>(hch _ z).2.1 rfl;exact I.step (ch:=ch) hch (λb o hL hb hc e n=>u.keep b o e n (λz=>(ñ.mp (I.stkSub b z)).elim hL hb) hc) (λb o _ _ hc e n=>u.any e n hc) (λb o hc e n=>u.free b o e n hc) (λb o hc e=>u.there b o e hc) u.tups u.frzs u.tbls (λm' hm=>by
  obtain ⟨o',es',ep',ho',r'⟩:=hm;rw[ho]at ho';cases ho';exact ⟨_,es',ep',hL,r'⟩) hok hg
theorem Inv.turned{t':Nat}{it:Addr}(I:Inv X pins σ H s)(k:∀b o,b≠it->s.heap.get? b=some o->h'.get? b=some o)(hn:H it=none)(hL:it≠X.env.locals)
  (h1:it∈X.ex\/X.s₀.heap.objs.size<=it) (h2:∀x c,X.env.cells.lookup x=some c->c≠it) (h3:∀p∈X.pn++pins,p.1≠it):Inv X pins σ H { s with heap:=h',toks:=t' }:=by
 have nit:∀b u,H b=some u->b≠it:=λb u e z=>by rw[z,hn]at e;cases e
 refine I.step (g':=s.gens) (d':=s.drawn) (ch:=[it]) (λb hb=>?_) (λb o _ _ hc e _=>k b o (λz=>hc (by simp[z])) e) (λb o _ _ hc e _=>⟨o.slots,k b o (λz=>hc (by simp[z])) e⟩) (λ_ _ _ _ n=>n)
  (λb o hc e=>⟨o,k b o (λz=>hc (by simp[z])) e⟩) (λ_ _ e=>e) (λ_ _ _ e=>e) (λb ps e=>⟨#[],by rw[e];simp⟩) (λm hm=>?_) (λb u e=>?_) I.bare
 ·have e:b=it:=by simpa using hb
  subst e;exact ⟨h1,hL,h2,h3⟩
 ·obtain ⟨o,es,ep,ho,r⟩:=hm;exact ⟨o,es,ep,k _ o (ń hL) ho,r⟩
 ·refine (I.hok b u e).stay (λc v hc q=>k c v ?_ q) (λ_ q=>q) λ_ _ q=>q;rcases hc with z|z
  ·rw[z];exact nit b u e
  ·exact nit c _ z
theorem Inv.tok(I:Inv X pins σ H s)(t:Nat):Inv X pins σ H { s with toks:=t }:=I.un (h':=s.heap) (t':=t) Un.refl I.hok
theorem Inv.kept(I:Inv X pins σ H s)(k:∀b u,s.heap.get? b=some u->h'.get? b=some u):Inv X pins σ H { s with heap:=h',toks:=t' }:=I.un (Un.kept k) (I.hok.kept k)
theorem Inv.laid(I:Inv X pins σ H s)(k:∀b u,s.heap.get? b=some u->h'.get? b=some u)(hp:s.heap.objs.size<=a)(new:bh X.prog X.w (upd H a o) h' a o) :
  Inv X pins σ (upd H a o) { s with heap:=h',toks:=t' }:=I.un (Un.laid k hp (I.hok.fresh hp)) (I.hok.laid k hp new)
theorem Inv.write(I:Inv X pins σ H s)(mu:Mut (H x))(he:e=x\/H e=some (.own x))(k:∀b u,b≠e->s.heap.get? b=some u->h'.get? b=some u)(heo:∃u,h'.get? e=some u)
  (new:bh X.prog X.w (upd H x o) h' x o):Inv X pins σ (upd H x o) { s with heap:=h',toks:=t' }:=I.un (Un.write mu he k heo) (I.hok.write mu he k heo new)
theorem Inv.weak(I:Inv X pins σ H s)(hl:σ'.length=σ.length)(w:∀(i:Nat) v,σ'[i]?=some (some v)->σ[i]?=some (some v)):Inv X pins σ' H s:=
 ⟨I.ok,I.os,I.bare,I.base,let ⟨m,hn,hl'⟩:=I.loc;⟨m,hn,λi x v e1 e2 e3=>hl' i x v e1 (w i v e2) e3⟩,I.cell,I.free,I.freeC,I.pin,I.hok,hl.trans I.len⟩
theorem Inv.pins_of(I:Inv X pins σ H s)(h:∀p∈pins',s.heap.get? p.1=some p.2/\H p.1=none/\p.1≠X.env.locals/\p.1∉X.fs/\∀v,p.2.data≠.cell v):Inv X pins' σ H s:=
 ⟨I.ok,I.os,I.bare,I.base,I.loc,I.cell,I.free,I.freeC,λp hp=>(ŀ.mp hp).elim (λz=>I.pin p (List.mem_append_left _ z)) (h p),I.hok,I.len⟩
theorem qgy{N:List Str}(hN:N.Nodup){i j:Nat}{x:Str}(a:N[i]?=some x)(b:N[j]?=some x):i=j:=by
 obtain ⟨h1,e1⟩:=É.mp a;obtain ⟨h2,e2⟩:=É.mp b;exact (List.getElem_inj hN).mp (e1.trans e2.symm)
theorem qe3{M:Model}{A:Ā}{E:Æ->Ç->Prop}{i:Nat}{x:Str}{v:V}{u:Æ}{Q:Unit->Ç->Prop}(I:Inv X pins σ H s)(hN:X.N.Nodup)(hi:X.N[i]?=some x)(hx:Loc X.env.scope x)(r:RelV v u)
  (h:∀s',Inv X pins (σ.set i (some v)) H s'->(∃a,ü a s.heap s'.heap/\(a=X.env.locals\/X.env.cells.lookup x=some a))->Q () s') (hf:X.fn x=true\/X.env.scope.names.lookup x=some .local:=by first|exact .inl rfl|exact .inr rfl|assumption):Ë M A (storeName X.env x u) Q E s:=by
 obtain ⟨m,hn,hl⟩:=id I.loc;have hcls:(X.env.scope.kind == .class||(X.env.scope.kind == .module&&X.env.locals != X.env.globals))=false:=by rw[I.ok.kind];rfl
 have hiσ:i<σ.length:=by rw[I.len];exact (É.mp hi).1
 have cne:=I.cne;have tracked:∀{a:Addr}{h':Heap},(∃o,s.heap.get? a=some o/\H a=none)->ü a s.heap h'->HOk X.prog X.w H h':=λ{a h'} ha hs b ob e=>by
  obtain ⟨_,_,hfree⟩:=ha;refine (I.hok b ob e).stay (λc w' hc q=>(hs.2 c ?_).trans q) (λ_ q=>q) λ_ _ q=>q;rintro rfl;rcases hc with rfl|hc
  ·rw[hfree]at e;cases e
  ·rw[hfree]at hc;cases hc
 rcases hx with hk|hk
 ·refine wpAny_storeName_local hk hn (λh' hn' hs=>?_) hcls;obtain ⟨oL,_,_,hoL,_⟩:=id hn;refine h _ ⟨I.ok,I.os,I.bare,⟨λb o e n hb hx=>?_,λb o e n hb hx=>?_,I.base.free,λb o e hx=>?_,I.base.tups,I.base.frzs,I.base.tbls⟩,⟨_,hn',λj y v' e1 e2 e3=>?_⟩,λy c e=>?_,I.free,I.freeC,λp hp=>?_,tracked ⟨oL,hoL,I.free⟩ hs,by simpa using I.len⟩ ⟨_,hs,.inl rfl⟩
  ·exact (hs.2 b (ĉ (ā (é e) I.ok.above))).trans (I.base.keep b o e n hb hx)
  ·obtain ⟨sl,e1⟩:=I.base.slot b o e n hb hx;exact ⟨sl,(hs.2 b (ĉ (ā (é e) I.ok.above))).trans e1⟩
  ·obtain ⟨o',e1⟩:=I.base.there b o e hx;exact ⟨o',(hs.2 b (ĉ (ā (é e) I.ok.above))).trans e1⟩
  ·by_cases hj:j=i
   ·subst hj;rw[hi]at e1;cases e1;rw[ą hiσ]at e2;cases e2;exact ⟨u,r,.inl ⟨hk,by simp⟩⟩
   ·rw[í (ń hj)]at e2;obtain ⟨u',r',q⟩:=hl j y v' e1 e2 e3;refine ⟨u',r',?_⟩;rcases q with ⟨k,e⟩|⟨k,c,e,z⟩
    ·refine .inl ⟨k,?_⟩;have:y≠x:=λe=>hj (qgy hN e1 (e ▸ hi));simp[this,e]
    ·exact .inr ⟨k,c,e,z.sameBut hs (cne y c e)⟩
  ·obtain ⟨w',z⟩:=I.cell y c e;exact ⟨w',z.sameBut hs (cne y c e)⟩
  ·obtain ⟨e,n,ne,nf,d⟩:=I.pin p hp;exact ⟨(hs.2 p.1 ne).trans e,n,ne,nf,d⟩
 ·have hfn:X.fn x=true:=by
   rcases hf with z|z
   ·exact z
   ·rw[z]at hk;cases hk
  obtain ⟨c,hc⟩:=I.ok.has x (.inl hk);obtain ⟨w',z⟩:=I.cell x c hc;refine wpAny_storeName_cell I.ok.kind hk hc z (λh' hc' hs=>?_);obtain ⟨oc,hoc,hocd⟩:=id z;refine h { s with heap:=h' } ⟨I.ok,I.os,I.bare,⟨λb o e n hb hx=>?_,λb o e n hb hx=>?_,I.base.free,λb o e hx=>?_,I.base.tups,I.base.frzs,I.base.tbls⟩,⟨m,hn.sameBut hs (ń (cne x c hc)),λj y v' e1 e2 e3=>?_⟩,λy c' e=>?_,I.free,I.freeC,λp hp=>?_,tracked ⟨oc,hoc,I.freeC x c hc⟩ hs,by simpa using I.len⟩ ⟨c,hs,.inr hc⟩
  ·exact (hs.2 b (ĉ (ā (é e) (I.ok.cab x c hfn hc)))).trans (I.base.keep b o e n hb hx)
  ·obtain ⟨sl,e1⟩:=I.base.slot b o e n hb hx;exact ⟨sl,(hs.2 b (ĉ (ā (é e) (I.ok.cab x c hfn hc)))).trans e1⟩
  ·obtain ⟨o',e1⟩:=I.base.there b o e hx;exact ⟨o',(hs.2 b (ĉ (ā (é e) (I.ok.cab x c hfn hc)))).trans e1⟩
  ·by_cases hj:j=i
   ·subst hj;rw[hi]at e1;cases e1;rw[ą hiσ]at e2;cases e2;exact ⟨u,r,.inr ⟨.inl hk,c,hc,hc'⟩⟩
   ·rw[í (ń hj)]at e2;obtain ⟨u',r',q⟩:=hl j y v' e1 e2 e3;refine ⟨u',r',?_⟩;rcases q with q|⟨k,c',e,z'⟩
    ·exact .inl q
    ·refine .inr ⟨k,c',e,z'.sameBut hs ?_⟩;rintro rfl;exact hj (qgy hN e1 (I.ok.inj _ _ _ e hc ▸ hi))
  ·by_cases hcc:c'=c
   ·subst hcc;exact ⟨_,hc'⟩
   ·obtain ⟨w2,z2⟩:=I.cell y c' e;exact ⟨w2,z2.sameBut hs hcc⟩
  ·obtain ⟨e,n,ne,nf,d⟩:=I.pin p hp;refine ⟨(hs.2 p.1 ?_).trans e,n,ne,nf,d⟩;intro q;rw[q,hoc]at e;have q':oc=p.2:=ď e;exact d w' (by rw[<-q'];exact hocd)
theorem qgt(I:Inv X pins σ H s)(hN:X.N.Nodup)(hi:X.N[i]?=some x)(hx:Loc X.env.scope x)(r:RelV v u)
  (h:∀s',Inv X pins (σ.set i (some v)) H s'->Q () s') (hf:X.fn x=true\/X.env.scope.names.lookup x=some .local:=by first|exact .inl rfl|exact .inr rfl|assumption):Ë M A (storeName X.env x u) Q E s:=
 qe3 I hN hi hx r (λs' I' _=>h s' I') hf
theorem Inv.call'(I:Inv X pins σ H s)(ho:s'.os=s.os)(u:Un (frs X.stack) ch H H' s.heap s'.heap)(hok:HOk X.prog X.w H' s'.heap)(hg:AllBare s'.gens)
  (hch:∀b∈ch,(b∈X.ex\/X.s₀.heap.objs.size<=b)/\b≠X.env.locals/\(∀x c,X.env.cells.lookup x=some c->c≠b)/\∀p∈X.pn++pins,p.1≠b):Inv X pins σ H' s':=by
 obtain ⟨h',g',d',t',o'⟩:=s';have e:o'=s.os:=ho;subst e;exact I.call (g':=g') (t':=t') (d':=d') u hok hg hch
end
noncomputable abbrev XK:=Æ->Option Addr->Hp->Prop
noncomputable abbrev St:=List (Option V)
noncomputable abbrev VK:=V->Hp->Prop
noncomputable abbrev TE:=St->Hp->VK->Prop
noncomputable abbrev TT:=St->Hp->(Bool->Hp->Prop)->Prop
noncomputable abbrev TA:=St->Hp->(List V->Hp->Prop)->Prop
structure Ends where
 nx:St->Hp->Prop
 rt:VK
 bk:St->Hp->Prop:=λ_ _=>False
 ct:St->Hp->Prop:=λ_ _=>False
noncomputable abbrev TS:=Ends->St->Hp->Prop
noncomputable def EP(X:Cx)(pins:List (Addr×Obj))(σ:St)(Q:VK)(u:Æ)(s':Ç):Prop:=∃v H',Inv X pins σ H' s'/\RelV v u/\Q v H'
noncomputable def TP(X:Cx)(pins:List (Addr×Obj))(σ:St)(Q:Bool->Hp->Prop)(b:Bool)(s':Ç):Prop:=∃H',Inv X pins σ H' s'/\Q b H'
noncomputable def AP(X:Cx)(pins:List (Addr×Obj))(σ:St)(Q:List V->Hp->Prop)(us:List Æ)(s':Ç):Prop:=∃vs H',Inv X pins σ H' s'/\Vals vs us/\Q vs H'
noncomputable def SP(X:Cx)(pins:List (Addr×Obj))(D:Ends)(f:Flow)(s':Ç):Prop:=
 match f with
 |.next=>∃σ' H',Inv X pins σ' H' s'/\D.nx σ' H'
 |.brk=>∃σ' H',Inv X pins σ' H' s'/\D.bk σ' H'
 |.cont=>∃σ' H',Inv X pins σ' H' s'/\D.ct σ' H'
 |.ret u=>∃v σ' H',Inv X pins σ' H' s'/\RelV v u/\D.rt v H'
noncomputable def PE(X:Cx)(e:Expr)(t:TE):Prop:=
 ∀(pins:List (Addr×Obj)) (s:Ç) (σ:St) (H:Hp) (Q:VK),Inv X pins σ H s->t σ H Q->Ë (model X.prog X.w) X.A (eval e X.env) (EP X pins σ Q) X.xe s
noncomputable def PT(X:Cx)(e:Expr)(t:TT):Prop:=
 ∀(pins:List (Addr×Obj)) (s:Ç) (σ:St) (H:Hp) (Q:Bool->Hp->Prop),Inv X pins σ H s->t σ H Q->Ë (model X.prog X.w) X.A (isTrue e X.env (eval e X.env)) (TP X pins σ Q) X.xe s
noncomputable def PW(X:Cx)(e:Expr)(t:TT):Prop:=
 ∀(whole:Sem Æ) (pins:List (Addr×Obj)) (s:Ç) (σ:St) (H:Hp) (Q:Bool->Hp->Prop),Inv X pins σ H s->t σ H Q->Ë (model X.prog X.w) X.A (isTrue e X.env whole) (TP X pins σ Q) X.xe s
theorem PW.pt(h:PW X e t):PT X e t:=h _
noncomputable def PA(X:Cx)(es:List Expr)(t:TA):Prop:=
 ∀(pos:Pos) (pins:List (Addr×Obj)) (s:Ç) (σ:St) (H:Hp) (Q:List V->Hp->Prop),Inv X pins σ H s->t σ H Q->Ë (model X.prog X.w) X.A (spliced (ľ pos (â es X.env))) (AP X pins σ Q) X.xe s
noncomputable def PS(X:Cx)(st:Stmt)(t:TS):Prop:=
 ∀(pins:List (Addr×Obj)) (s:Ç) (σ:St) (H:Hp) (D:Ends),Inv X pins σ H s->t D σ H->Ë (model X.prog X.w) X.A (exec st X.env) (SP X pins D) X.xe s
noncomputable def PSs(X:Cx)(st:List Stmt)(t:TS):Prop:=
 ∀(pins:List (Addr×Obj)) (s:Ç) (σ:St) (H:Hp) (D:Ends),Inv X pins σ H s->t D σ H->Ë (model X.prog X.w) X.A (execs st X.env) (SP X pins D) X.xe s
theorem thn(h:Ë M A t Q E s)(hQ:∀a s,Q a s->Q' a s):Ë M A t Q' E s:=Ň h hQ λ_ _ x=>x
section
variable {X:Cx}
theorem bin(ha:PE X a ta)(hb:PE X b tb){pins:List (Addr×Obj)}{s:Ç}{σ:St}{H:Hp}{R:V->V->Hp->Prop}(I:Inv X pins σ H s)(h:ta σ H λx H1=>tb σ H1 λy H2=>R x y H2)
  {α:Type}{Q:α->Ç->Prop}{f:Æ->Æ->Sem α}
  (hf:∀v u s2 x y H2,Inv X pins σ H2 s2->RelV x v->RelV y u->R x y H2->Ë (model X.prog X.w) X.A (f v u) Q X.xe s2) :
  Ë (model X.prog X.w) X.A (eval a X.env) (λv s₁=>Ë (model X.prog X.w) X.A (eval b X.env) (λu s₂=>Ë (model X.prog X.w) X.A (f v u) Q X.xe s₂) X.xe s₁) X.xe s:=by
 refine thn (ha pins s σ H _ I h) λv s1 ⟨x,H1,I1,r1,q1⟩=>?_;refine thn (hb pins s1 σ H1 _ I1 q1) λu s2 ⟨y,H2,I2,r2,q2⟩=>?_;exact hf v u s2 x y H2 I2 r1 r2 q2
noncomputable def tVar(i:Nat):TE:=λσ H Q=>∃v,σ[i]?=some (some v)/\Q v H
noncomputable def tC(v:V):TE:=λ_ H Q=>Q v H
theorem pe_var(hN:X.N[i]?=some x)(hv:Vis X.env.scope x)(hd:(x == ("__debug__" : Str))=false:=by decide)(hcd:(x == ("__classdict__" : Str))=false:=by decide):PE X (.Name x pos) (tVar i):=by
 intro pins s σ H Q I h;obtain ⟨v,e,h⟩:=h;obtain ⟨m,hn,hl⟩:=I.loc;obtain ⟨u,r,l⟩:=hl i x v hN e hv;have fin:EP X pins σ Q u s:=⟨v,H,I,r,h⟩;rcases l with ⟨hk,hm⟩|⟨hk,c,hc,hcell⟩
 ·exact wpAny_Name (wpAny_loadName_local I.ok.kind hk hn hm fin) hd
 ·rcases hk with hk|hk
  ·exact wpAny_Name (wpAny_loadName_cell I.ok.kind hk hc hcell fin) hd
  ·exact wpAny_Name (wpAny_loadName_free I.ok.kind hk hc hcell fin hcd) hd
theorem pe_int{i j pos}:PE X (.Constant (.int i) j pos) (tC (.int i)):=λ_ _ _ H _ I h=>wpAny_Constant_int ⟨.int i,H,I.tok _,⟨_,rfl⟩,h⟩
theorem pe_bl{b j pos}:PE X (.Constant (.bool b) j pos) (tC (.bl b)):=λ_ _ _ H _ I h=>Constant_bool ⟨.bl b,H,I,rfl,h⟩
theorem pe_non{j pos}:PE X (.Constant .none j pos) (tC .non):=λ_ _ _ H _ I h=>Constant_none ⟨.non,H,I,rfl,h⟩
theorem pe_str{x j pos}:PE X (.Constant (.str x) j pos) (tC (.str x)):=λ_ _ _ H _ I h=>Calls.Constant_str ⟨.str x,H,I.tok _,⟨_,rfl⟩,h⟩
noncomputable def Gl(X:Cx)(x:Str):Prop:=X.env.kindOf x=some .globalImplicit
theorem yef(I:Inv X pins σ H s)(hg:Gl X x)(hm:X.mg x=some u)(h:Q u s)
  (hd:(x == ("__debug__" : Str))=false:=by decide):Ë (model X.prog X.w) X.A (eval (.Name x pos) X.env) Q E s:=
 Calls.Name_function_global I.ok.kind hg (Calls.loadGlobal_global (by rw[I.ok.glob];exact I.mod.glob.keeps I.bk) hm h) hd
theorem fq(I:Inv X pins σ H s)(hg:Gl X x)(hm:X.mg x=none)(hv:Ī x=some u)(h:Q u s)
  (hn:x≠"__name__":=by decide) (hd:(x == ("__debug__" : Str))=false:=by decide):Ë (model X.prog X.w) X.A (eval (.Name x pos) X.env) Q E s:=by
 obtain ⟨mb,h1,h2⟩:=I.mod.blt;exact Calls.Name_function_global I.ok.kind hg (Calls.loadGlobal_builtin (by rw[I.ok.glob];exact I.mod.glob.keeps I.bk) hm (by rw[I.ok.blt];exact h1.keeps I.bk) ((h2 x hn).trans hv) h) hd
theorem qeo(hg:Gl X x)(hm:X.mg x=some u)(r:RelV v u)(hd:(x == ("__debug__" : Str))=false:=by decide):PE X (.Name x pos) (tC v):=
 λ_ _ _ H _ I h=>yef I hg hm ⟨v,H,I,r,h⟩ hd
theorem pe_bltn(hg:Gl X x)(hm:X.mg x=none)(hv:Ī x=some u)(r:RelV v u)(hn:x≠"__name__":=by decide)(hd:(x == ("__debug__" : Str))=false:=by decide):PE X (.Name x pos) (tC v):=
 λ_ _ _ H _ I h=>fq I hg hm hv ⟨v,H,I,r,h⟩ hn hd
variable {a b:Expr}{ta tb:TE}{pos:Pos}
noncomputable def PC(X:Cx)(op:CmpOp)(a b:Expr)(t:TE):Prop:=
 ∀(pins:List (Addr×Obj)) (s:Ç) (σ:St) (H:Hp) (Q:VK),Inv X pins σ H s->t σ H Q->
  Ë (model X.prog X.w) X.A (eval a X.env) (λv s₁=>Ë (model X.prog X.w) X.A (eval b X.env) (λu s₂=>Ë (model X.prog X.w) X.A (ĕ op v u) (EP X pins σ Q) X.xe s₂) X.xe s₁) X.xe s
theorem qhb(b:Expr){op:CmpOp}(h:op≠.In)(h2:op≠.NotIn):Ŏ op b=false:=by
 have e1:(op == CmpOp.In)=false:=by cases op<;>first|rfl|exact absurd rfl h
 have e2:(op == CmpOp.NotIn)=false:=by cases op<;>first|rfl|exact absurd rfl h2
 cases b<;>simp[Ŏ,e1,e2]
noncomputable def tIsN(ta:TE):TE:=λσ H Q=>ta σ H λx H1=>Q (.bl (decide (x=.non))) H1
noncomputable def tNotN(ta:TE):TE:=λσ H Q=>ta σ H λx H1=>Q (.bl (!decide (x=.non))) H1
theorem RelV.none_iff(r:RelV x v):(v == ó)=decide (x=.non):=by
 cases x with
 |non=>cases r;rfl
 |bl _=>cases r;rfl
 |int _=>obtain ⟨t,rfl⟩:=r;rfl
 |str _=>obtain ⟨t,rfl⟩:=r;rfl
 |byt _=>obtain ⟨t,rfl⟩:=r;rfl
 |flt _=>obtain ⟨t,rfl⟩:=r;rfl
 |ref _=>cases r;rfl
 |ty _=>cases r;rfl
theorem pc_isN{j pos'}(ha:PE X a ta):PC X .Is a (.Constant .none j pos') (tIsN ta):=by
 intro pins s σ H Q I h;refine thn (ha pins s σ H _ I h) λv s1 ⟨x,H1,I1,r1,q1⟩=>?_;exact Constant_none (is_none_gen ⟨.bl _,H1,I1,by rw[r1.none_iff];rfl,q1⟩)
theorem yis{j pos'}(ha:PE X a ta):PC X .IsNot a (.Constant .none j pos') (tNotN ta):=by
 intro pins s σ H Q I h;refine thn (ha pins s σ H _ I h) λv s1 ⟨x,H1,I1,r1,q1⟩=>?_;exact Constant_none (isnot_none_gen ⟨.bl _,H1,I1,by rw[r1.none_iff];rfl,q1⟩)
noncomputable def tB(t:TE):TT:=λσ H Q=>t σ H λx H1=>∃c,x=.bl c/\Q c H1
theorem pe_cmp(h:PC X op a b t)(h1:Ŏ op b=false:=by first|exact qhb _ (by decide) (by decide)|rfl):PE X (.Compare a [op] [b] pos) t:=λpins s σ H Q I hw=>wpAny_Compare1 (h pins s σ H Q I hw) h1
theorem pt_cmp(h:PC X op a b t)(h1:Ŏ op b=false:=by first|exact qhb _ (by decide) (by decide)|rfl):PT X (.Compare a [op] [b] pos) (tB t):=by
 intro pins s σ H Q I hw;refine wpAny_isTrue_Compare1 (thn (h pins s σ H _ I hw) λv s1 h1=>thn h1 λu s2 h2=>thn h2 λc s3 ⟨x,H1,I1,r1,q1⟩=>?_) h1;obtain ⟨d,rfl,q⟩:=q1;cases r1;exact Ķ ⟨H1,I1,q⟩
theorem pt_val(h:PE X e t)(he:∀whole,isTrue e X.env whole=(do let v <-whole;standAt e.pos;holding [v] (truthy v)):=by intro _;rfl):PT X e (tB t):=by
 intro pins s σ H Q I hw;refine isTrue_plain (thn (h pins s σ H _ I hw) λv s1 ⟨x,H1,I1,r1,q1⟩=>?_) (he _);obtain ⟨d,rfl,q⟩:=q1;cases r1;exact Ķ ⟨H1,I1,q⟩
variable {tA tB':TT}{rest:List Expr}
noncomputable def tAnd(t u:TT):TT:=λσ H Q=>t σ H λc H1=>if c=true then u σ H1 Q else Q false H1
noncomputable def tOr(t u:TT):TT:=λσ H Q=>t σ H λc H1=>if c=true then Q true H1 else u σ H1 Q
noncomputable def tNot(t:TT):TT:=λσ H Q=>t σ H λc H1=>Q (!c) H1
theorem pw_and1(ha:PT X a tA):PW X (.BoolOp .And [a] pos) tA:=by
 intro wh pins s σ H Q I h;refine isTrue_and (thn (ha pins s σ H Q I h) λc s1 e=>?_);cases c with
 |true=>exact isTrue_and_nil e
 |false=>exact e
theorem pw_or1(ha:PT X a tA):PW X (.BoolOp .Or [a] pos) tA:=by
 intro wh pins s σ H Q I h;refine isTrue_or (thn (ha pins s σ H Q I h) λc s1 e=>?_);cases c with
 |false=>exact isTrue_or_nil e
 |true=>exact e
theorem pw_and(ha:PT X a tA)(hb:PW X (.BoolOp .And (b::rest) pos) tB'):PW X (.BoolOp .And (a::b::rest) pos) (tAnd tA tB'):=by
 intro wh pins s σ H Q I h;refine isTrue_and (thn (ha pins s σ H _ I h) λc s1 ⟨H1,I1,q1⟩=>?_);cases c with
 |true=>exact hb wh pins s1 σ H1 Q I1 q1
 |false=>exact ⟨H1,I1,q1⟩
theorem pw_or(ha:PT X a tA)(hb:PW X (.BoolOp .Or (b::rest) pos) tB'):PW X (.BoolOp .Or (a::b::rest) pos) (tOr tA tB'):=by
 intro wh pins s σ H Q I h;refine isTrue_or (thn (ha pins s σ H _ I h) λc s1 ⟨H1,I1,q1⟩=>?_);cases c with
 |true=>exact ⟨H1,I1,q1⟩
 |false=>exact hb wh pins s1 σ H1 Q I1 q1
theorem pt_not(ha:PT X a tA):PT X (.UnaryOp .Not a pos) (tNot tA):=by
 intro pins s σ H Q I h;exact isTrue_not (ha pins s σ H (λc H1=>Q (!c) H1) I h)
noncomputable def tAndV(ta tb:TE):TE:=λσ H Q=>ta σ H λx H1=>∃c,x=.bl c/\if c=true then tb σ H1 Q else Q (.bl false) H1
noncomputable def tOrV(ta tb:TE):TE:=λσ H Q=>ta σ H λx H1=>∃c,x=.bl c/\if c=true then Q (.bl true) H1 else tb σ H1 Q
noncomputable def tNotV(ta:TE):TE:=λσ H Q=>ta σ H λx H1=>∃c,x=.bl c/\Q (.bl (!c)) H1
theorem pe_one{op}{t:TE}(h:PE X a t):PE X (.BoolOp op [a] pos) t:=λpins s σ H Q I hw=>BoolOp_one (h pins s σ H Q I hw)
theorem pe_and(ha:PE X a ta)(hb:PE X (.BoolOp .And (b::rest) pos) tb):PE X (.BoolOp .And (a::b::rest) pos) (tAndV ta tb):=by
 intro pins s σ H Q I h;refine BoolOp_and (thn (ha pins s σ H _ I h) λv s1 ⟨x,H1,I1,r1,q1⟩=>?_);obtain ⟨c,rfl,q1⟩:=q1;cases r1;refine Ķ ?_;cases c with
 |true=>exact hb pins s1 σ H1 Q I1 q1
 |false=>exact ⟨.bl false,H1,I1,rfl,q1⟩
theorem pe_or(ha:PE X a ta)(hb:PE X (.BoolOp .Or (b::rest) pos) tb):PE X (.BoolOp .Or (a::b::rest) pos) (tOrV ta tb):=by
 intro pins s σ H Q I h;refine BoolOp_or (thn (ha pins s σ H _ I h) λv s1 ⟨x,H1,I1,r1,q1⟩=>?_);obtain ⟨c,rfl,q1⟩:=q1;cases r1;refine Ķ ?_;cases c with
 |false=>exact hb pins s1 σ H1 Q I1 q1
 |true=>exact ⟨.bl true,H1,I1,rfl,q1⟩
theorem pe_not(ha:PE X a ta):PE X (.UnaryOp .Not a pos) (tNotV ta):=by
 intro pins s σ H Q I h;refine UnaryOp_ (thn (ha pins s σ H _ I h) λv s1 ⟨x,H1,I1,r1,q1⟩=>?_);obtain ⟨c,rfl,q1⟩:=q1;cases r1;exact not_of (Ķ ⟨.bl (!c),H1,I1,rfl,q1⟩)
noncomputable def tIf(t:TT)(ta tb:TE):TE:=λσ H Q=>t σ H λc H1=>if c=true then ta σ H1 Q else tb σ H1 Q
theorem pe_ifExp(hc:PT X c tA)(ha:PE X a ta)(hb:PE X b tb):PE X (.IfExp c a b pos) (tIf tA ta tb):=by
 intro pins s σ H Q I h;refine wpAny_IfExp (thn (hc pins s σ H _ I h) λd s1 ⟨H1,I1,q1⟩=>?_);cases d with
 |true=>exact ha pins s1 σ H1 Q I1 q1
 |false=>exact hb pins s1 σ H1 Q I1 q1
end
noncomputable def SqL(K:Þ)(H:Hp)(a:Addr)(xs:List V):Prop:=
 Rd H a (.lst xs)\/
  ∃(o:Obj) (its:Array Æ) (n:Nat),K.lookup a=some o/\o.cls=.type "list"/\o.dict=none/\o.data=.seq its n/\its.size<=Õ/\Vals xs its.toList
noncomputable def SqT(K:Þ)(H:Hp)(a:Addr)(xs:List V):Prop:=
 Rd H a (.tup xs)\/
  ∃(o:Obj) (its:Array Æ) (n:Nat),K.lookup a=some o/\o.cls=.type "tuple"/\o.data=.seq its n/\its.size<=Õ/\Vals xs its.toList
noncomputable def absV:Æ->Option V
 |.none=>some .non
 |.bool b=>some (.bl b)
 |.int i _=>some (.int i)
 |.str x _=>some (.str x)
 |.bytes b _=>some (.byt b)
 |.float b _=>some (.flt b)
 |.ref a=>some (.ref a)
 |.type n=>some (.ty n)
 |_=>none
theorem RelV.abs(r:RelV x u):absV u=some x:=by
 cases x with
 |non=>cases r;rfl
 |bl _=>cases r;rfl
 |int _=>obtain ⟨t,rfl⟩:=r;rfl
 |str _=>obtain ⟨t,rfl⟩:=r;rfl
 |byt _=>obtain ⟨t,rfl⟩:=r;rfl
 |flt _=>obtain ⟨t,rfl⟩:=r;rfl
 |ref _=>cases r;rfl
 |ty _=>cases r;rfl
theorem RelV.inj(r:RelV x u)(q:RelV y u):x=y:=ď (r.abs.symm.trans q.abs)
theorem Vals.inj:∀{xs ys:List V}{us:List Æ},Vals xs us->Vals ys us->xs=ys
 |_,_,_,.nil,.nil=>rfl
 |_,_,_,.cons r t,.cons r' t'=>by rw[r.inj r',Vals.inj t t']
section
variable {X:Cx}{pins:List (Addr×Obj)}{σ:St}{H:Hp}{s:Ç}{a:Addr}{xs ys:List V}
theorem cp{K:Þ}(h:H a=some (.lst xs)):SqL K H a xs:=.inl (.inl h)
theorem sqtO{K:Þ}(h:H a=some (.tup xs)):SqT K H a xs:=.inl (.inl h)
theorem Inv.list(I:Inv X pins σ H s)(h:SqL X.K H a xs):∃its:List Æ,Vals xs its/\PlainL s.heap a its.toArray/\xs.length<=Õ:=by
 rcases h with h|⟨o,its,n,hk,hc,hd,hs,hz,r⟩
 ·obtain ⟨z,its,n,r,e⟩:=h.ok I.hok;exact ⟨its,r,⟨_,n,e,rfl,rfl,rfl⟩,z⟩
 ·refine ⟨its.toList,r,⟨o,n,I.kIn a o hk,hc,hd,by simpa using hs⟩,?_⟩;have e:=r.length;simp only[ä]at e;omega
theorem Inv.tuple(I:Inv X pins σ H s)(h:SqT X.K H a xs):∃its:List Æ,Vals xs its/\IsTup s.heap a its.toArray/\xs.length<=Õ:=by
 rcases h with h|⟨o,its,n,hk,hc,hs,hz,r⟩
 ·obtain ⟨z,its,r,p⟩:=h.ok I.hok;exact ⟨its,r,p,z⟩
 ·refine ⟨its.toList,r,⟨o,I.kIn a o hk,hc,n,by simpa using hs⟩,?_⟩;have e:=r.length;simp only[ä]at e;omega
theorem Inv.list_inj(I:Inv X pins σ H s)(h:SqL X.K H a xs)(h':SqL X.K H a ys):xs=ys:=by
 obtain ⟨its,r,⟨o,n,e,_,_,d⟩,_⟩:=I.list h;obtain ⟨its',r',⟨o',n',e',_,_,d'⟩,_⟩:=I.list h';rw[e]at e';cases e';rw[d]at d';injection d' with d1 _;have:its=its':=by simpa using congrArg Array.toList d1
 subst this;exact r.inj r'
theorem Inv.tuple_inj(I:Inv X pins σ H s)(h:SqT X.K H a xs)(h':SqT X.K H a ys):xs=ys:=by
 obtain ⟨its,r,⟨o,e,_,n,d⟩,_⟩:=I.tuple h;obtain ⟨its',r',⟨o',e',_,n',d'⟩,_⟩:=I.tuple h';rw[e]at e';cases e';rw[d]at d';injection d' with d1 _;have:its=its':=by simpa using congrArg Array.toList d1
 subst this;exact r.inj r'
end
noncomputable abbrev Cx.wish(X:Cx)(E:Æ->Ç->Prop):Cx:={ X with xe:=E }
noncomputable abbrev Cx.nox(X:Cx):Cx:=X.wish λ_ _=>False
theorem Cx.Ok.wish{X:Cx}(ok:X.Ok)(E:Æ->Ç->Prop):(X.wish E).Ok:=
 ⟨ok.mod,ok.kind,ok.glob,ok.blt,ok.above,ok.inj,ok.has,ok.cab,ok.hd,ok.frames,ok.stk,ok.exf,ok.bs,ok.bsz,ok.noex,ok.exfs,ok.funs,ok.frf⟩
theorem Cx.Ok.unwish{X:Cx}{E:Æ->Ç->Prop}(ok:(X.wish E).Ok):X.Ok:=
 ⟨ok.mod,ok.kind,ok.glob,ok.blt,ok.above,ok.inj,ok.has,ok.cab,ok.hd,ok.frames,ok.stk,ok.exf,ok.bs,ok.bsz,ok.noex,ok.exfs,ok.funs,ok.frf⟩
section
variable {X:Cx}{pins:List (Addr×Obj)}{σ:St}{H:Hp}{s:Ç}{E:Æ->Ç->Prop}
theorem Inv.wish(I:Inv X pins σ H s)(E:Æ->Ç->Prop):Inv (X.wish E) pins σ H s:=⟨I.ok.wish E,I.os,I.bare,I.base,I.loc,I.cell,I.free,I.freeC,I.pin,I.hok,I.len⟩
theorem Inv.unwish(I:Inv (X.wish E) pins σ H s):Inv X pins σ H s:=⟨I.ok.unwish,I.os,I.bare,I.base,I.loc,I.cell,I.free,I.freeC,I.pin,I.hok,I.len⟩
theorem SP.unwish(h:SP (X.wish E) pins D f s'):SP X pins D f s':=by
 cases f with
 |next=>obtain ⟨σ',H',I,q⟩:=h;exact ⟨σ',H',I.unwish,q⟩
 |brk=>obtain ⟨σ',H',I,q⟩:=h;exact ⟨σ',H',I.unwish,q⟩
 |cont=>obtain ⟨σ',H',I,q⟩:=h;exact ⟨σ',H',I.unwish,q⟩
 |ret u=>obtain ⟨v,σ',H',I,r,q⟩:=h;exact ⟨v,σ',H',I.unwish,r,q⟩
theorem PSs.nox{st:List Stmt}{t:TS}(h:PSs X.nox st t):PSs X st t:=λpins s σ H D I hw=>
 Ň (h pins s σ H D (I.wish _) hw) (λ_ _ q=>q.unwish) λ_ _ z=>ĭ z
end
section
variable {X:Cx}{st:Stmt}{rest:List Stmt}{t u:TS}{e:Expr}{te:TE}{pos:Pos}
noncomputable def tNext:TS:=λD σ H=>D.nx σ H
noncomputable def tSeq(t u:TS):TS:=λD σ H=>t { D with nx:=u D } σ H
theorem pss_nil:PSs X [] tNext:=λ_ _ σ H _ I h=>wpAny_execs_nil ⟨σ,H,I,h⟩
theorem pss_cons(h1:PS X st t)(h2:PSs X rest u):PSs X (st::rest) (tSeq t u):=by
 intro pins s σ H D I h;refine wpAny_execs_cons (thn (h1 pins s σ H { D with nx:=u D } I h) λf s1 q=>?_);cases f with
 |next=>
  obtain ⟨σ',H',I',q⟩:=q;exact h2 pins s1 σ' H' D I' q
 |ret v=>exact q
 |brk=>exact q
 |cont=>exact q
theorem ps_pass:PS X (.Pass pos) tNext:=λ_ _ σ H _ I h=>wpAny_Pass ⟨σ,H,I,h⟩
theorem Inv.quiet(I:Inv X pins σ H s):interactive X.env=false:=by simp[interactive,I.ok.kind]
noncomputable def tDrop(te:TE):TS:=λD σ H=>te σ H λ_ H1=>D.nx σ H1
theorem ps_expr(he:PE X e te)(hs:swapsWith e none pos.line X.env=pure false:=by rfl):PS X (.Expr e pos) (tDrop te):=by
 intro pins s σ H D I h;exact wpAny_Expr_any (thn (he pins s σ H _ I h) λv s1 ⟨x,H1,I1,r1,q1⟩=>⟨σ,H1,I1,q1⟩) I.quiet hs
noncomputable def tRet(te:TE):TS:=λD σ H=>te σ H D.rt
theorem ps_ret(he:PE X e te):PS X (.Return (some e) pos) (tRet te):=by
 intro pins s σ H D I h;exact wpAny_Return_some (thn (he pins s σ H _ I h) λv s1 ⟨x,H1,I1,r1,q1⟩=>⟨x,σ,H1,I1,r1,q1⟩)
noncomputable def tRetN:TS:=λD _ H=>D.rt .non H
theorem ps_retN:PS X (.Return none pos) tRetN:=λ_ _ σ H _ I h=>wpAny_Return_none ⟨.non,σ,H,I,rfl,h⟩
noncomputable def tIfS(c:TT)(t u:TS):TS:=λD σ H=>c σ H λb H1=>if b=true then t D σ H1 else u D σ H1
theorem ps_if(hc:PT X c tc)(ha:PSs X a t)(hb:PSs X b u):PS X (.If c a b pos) (tIfS tc t u):=by
 intro pins s σ H D I h;refine wpAny_If (thn (hc pins s σ H _ I h) λd s1 ⟨H1,I1,q1⟩=>?_);cases d with
 |true=>exact ha pins s1 σ H1 D I1 q1
 |false=>exact hb pins s1 σ H1 D I1 q1
end
noncomputable abbrev TG:=V->St->Hp->(St->Hp->Prop)->Prop
noncomputable abbrev TGs:=List V->St->Hp->(St->Hp->Prop)->Prop
noncomputable def PG(X:Cx)(target:Expr)(t:TG):Prop:=
 ∀(pins:List (Addr×Obj)) (s:Ç) (σ:St) (H:Hp) (v:V) (u:Æ) (Q:St->Hp->Prop),Inv X pins σ H s->RelV v u->t v σ H Q->
  Ë (model X.prog X.w) X.A (assign target X.env u) (λ_ s'=>∃σ' H',Inv X pins σ' H' s'/\Q σ' H') X.xe s
noncomputable def PGs(X:Cx)(ts:List Expr)(t:TGs):Prop:=
 ∀(pins:List (Addr×Obj)) (s:Ç) (σ:St) (H:Hp) (vs:List V) (us:List Æ) (Q:St->Hp->Prop),Inv X pins σ H s->Vals vs us->t vs σ H Q->
  Ë (model X.prog X.w) X.A (assignInOrder ((Μ ts X.env).map (·.2)) us) (λ_ s'=>∃σ' H',Inv X pins σ' H' s'/\Q σ' H') X.xe s
noncomputable abbrev TSet:=V->V->V->Hp->(Hp->Prop)->Prop
noncomputable def PSet(X:Cx)(t:TSet):Prop:=
 ∀(pins:List (Addr×Obj)) (s:Ç) (σ:St) (H:Hp) (o i v:V) (ov iv u:Æ) (Q:Hp->Prop),Inv X pins σ H s->RelV o ov->RelV i iv->RelV v u->t o i v H Q->
  Ë (model X.prog X.w) X.A (setItem ov iv u) (λ_ s'=>∃H',Inv X pins σ H' s'/\Q H') X.xe s
section
variable {X:Cx}{pos:Pos}
noncomputable def gName(i:Nat):TG:=λv σ H Q=>Q (σ.set i (some v)) H
theorem qjc(hN:X.N.Nodup)(hi:X.N[i]?=some x)(hx:Loc X.env.scope x)(hf:X.fn x=true\/X.env.scope.names.lookup x=some .local:=by first|exact .inl rfl|exact .inr rfl|assumption):PG X (.Name x pos) (gName i):=by
 intro pins s σ H v u Q I r h;exact wpAny_assign_Name (qgt I hN hi hx r (λs' I'=>⟨_,H,I',h⟩) hf)
noncomputable def gNil:TGs:=λvs σ H Q=>vs=[]/\Q σ H
noncomputable def gCons(t:TG)(u:TGs):TGs:=λvs σ H Q=>∃v r,vs=v::r/\t v σ H λσ' H'=>u r σ' H' Q
theorem pgs_nil:PGs X [] gNil:=by
 intro pins s σ H vs us Q I r h;obtain ⟨e,h⟩:=h;subst e;cases r;exact assignInOrder_nil ⟨σ,H,I,h⟩
theorem pgs_cons(h1:PG X e t)(h2:PGs X es u)
  (hs:(Μ (e::es) X.env).map (·.2)=assign e X.env::(Μ es X.env).map (·.2):=by rfl):PGs X (e::es) (gCons t u):=by
 intro pins s σ H vs us Q I r h;obtain ⟨v,vr,e1,h⟩:=h;subst e1;cases r with
 |cons r rr=>
  rw[hs];refine assignInOrder_cons (thn (h1 pins s σ H _ _ _ I r h) λ_ s1 ⟨σ1,H1,I1,q1⟩=>?_);exact h2 pins s1 σ1 H1 _ _ Q I1 rr q1
noncomputable def gTup(K:Þ)(n:Nat)(t:TGs):TG:=λv σ H Q=>∃a xs,v=.ref a/\SqT K H a xs/\xs.length=n/\t xs σ H Q
theorem pg_tup(hc:X.calm=true)(h:PGs X es t)
  (hn:(Μ es X.env).length=n:=by rfl) (hst:(Μ es X.env).findIdx? (·.1)=none:=by rfl):PG X (.Tuple es k pos) (gTup X.K n t):=by
 intro pins s σ H v u Q I r hw;obtain ⟨a,xs,e1,hq,hl,hw⟩:=hw;subst e1;cases r;obtain ⟨its,rv,ht,hz⟩:=I.tuple hq;refine assign_Tuple_tuple (I.ok.hd hc) ht (by simp[hn,<-hl,rv.length]) hst λh' hx=>?_;have I1:Inv X pins σ H { s with heap:=h' }:=I.kept (t':=s.toks) λb o e=>hx b o (ĉ (é e)) e;exact h pins _ σ H xs _ Q I1 (by simpa using rv) hw
noncomputable def gSub(to ti:TE)(t:TSet):TG:=λv σ H Q=>to σ H λo H1=>ti σ H1 λi H2=>t o i v H2 λH3=>Q σ H3
theorem pg_sub(ho:PE X o to)(hi:PE X i ti)(hs:PSet X t)
  (ha:∀v,assign (.Subscript o i pos) X.env v=(do
   let ov <-holding [v] (eval o X.env);let iv <-holding [v,ov] (eval i X.env)
   standAt pos
   holding [v,ov,iv] (setItem ov iv v)
   release [v,ov,iv] []):=by intro _;rfl):PG X (.Subscript o i pos) (gSub to ti t):=by
 intro pins s σ H v u Q I r h;rw[ha];refine À (î (thn (ho pins s σ H _ I h) λov s1 ⟨x,H1,I1,r1,q1⟩=>?_));refine À (î (thn (hi pins s1 σ H1 _ I1 q1) λiv s2 ⟨y,H2,I2,r2,q2⟩=>?_));refine À (wpAny_standAt (À (î (thn (hs pins s2 σ H2 x y v ov iv u _ I2 r1 r2 r q2) λ_ s3 ⟨H3,I3,q3⟩=>?_))));exact wpAny_release ⟨σ,H3,I3,q3⟩
noncomputable def tAsg(te:TE)(g:TG):TS:=λD σ H=>te σ H λx H1=>g x σ H1 D.nx
theorem ps_asg(he:PE X e te)(hg:PG X tg g)(hs:swapsWithSole [tg] e pos.line X.env=pure false:=by rfl)(hw:swappedStores [tg] e X.env=pure none:=by rfl)
  (h1:(Μ [tg] X.env).map (·.2)=[assign tg X.env]:=by rfl):PS X (.Assign [tg] e pos) (tAsg te g):=by
 intro pins s σ H D I h;refine wpAny_Assign_stores (thn (he pins s σ H _ I h) λv s1 ⟨x,H1,I1,r1,q1⟩=>?_) hs hw;rw[h1];exact thn (hg pins s1 σ H1 x v _ I1 r1 q1) λ_ s2 q=>q
theorem ps_set(hN:X.N.Nodup)(hi:X.N[i]?=some x)(hx:Loc X.env.scope x)(he:PE X e te)(hs:swapsWith e (some (.Name x pos')) pos.line X.env=pure false:=by rfl)(hf:X.fn x=true\/X.env.scope.names.lookup x=some .local:=by first|exact .inl rfl|exact .inr rfl|assumption) :
  PS X (.Assign [.Name x pos'] e pos) (tAsg te (gName i)):=by
 intro pins s σ H D I h;refine wpAny_Assign_Name (thn (he pins s σ H _ I h) λv s1 ⟨y,H1,I1,r1,q1⟩=>?_) hs;exact qgt I1 hN hi hx r1 (λs2 I2=>⟨_,H1,I2,q1⟩) hf
end
structure It where
 go:Nat->Hp->Prop
 yld:Nat->Hp->V->Hp->Prop
 stop:Nat->Hp->Prop
noncomputable def FpOk(X:Cx)(pins:List (Addr×Obj))(H:Hp)(b:Addr):Prop:=
 H b=none/\b≠X.env.locals/\b∉X.fs/\(b∈X.ex\/X.s₀.heap.objs.size<=b)/\(∀x c,X.env.cells.lookup x=some c->c≠b)/\∀p∈X.pn++pins,p.1≠b
theorem Inv.fpOk(I:Inv X pins σ H s)(hb:s.heap.objs.size<=b)(hn:H' b=none):FpOk X pins H' b:=by
 refine ⟨hn,ai (ā I.lt hb),I.nofs hb,.inr (Ğ I.sz hb),λx c e z=>?_,λp hp z=>?_⟩
 ·obtain ⟨v,q⟩:=I.cell x c e;exact absurd (ā q.lt (by rw[z];exact hb)) (ο _)
 ·exact absurd (ā (é (I.pin p hp).1) (by rw[z];exact hb)) (ο _)
structure Turn(P:Ü)(w:ï)(K:Þ)(tg:Expr)(J:It)(fp:List Addr)(it:Addr)(tn:Nat->Heap->Prop):Prop where
 mem:it∈fp
 obj:∀i h,tn i h->∀b∈fp,∃o,h.get? b=some o/\∀v,o.data≠.cell v
 keep:∀i h h',tn i h->(∀b∈fp,∀o,h.get? b=some o->h'.get? b=some o)->tn i h'
 item:∀(X:Cx),X.prog=P->X.w=w->X.K=K->X.calm=true->∀(i:Nat) (pins:List (Addr×Obj)) (s:Ç) (σ:St) (H:Hp) (E:Æ->Ç->Prop),Inv X pins σ H s->(∀b∈fp,FpOk X pins H b)->tn i s.heap->J.go i H->
  Ë (model P w) X.A (Ř (.ref it)) (λr s1=>∃u,r=some u/\
   Ë (model P w) X.A (letOwnedTupleGo tg (.ref it) u) (λ_ s2=>∃x H',Inv X pins σ H' s2/\RelV x u/\J.yld i H x H'/\tn (i+1) s2.heap/\∀b∈fp,H' b=none) E s1) E s
 done:∀(X:Cx),X.prog=P->X.w=w->X.K=K->X.calm=true->∀(i:Nat) (pins:List (Addr×Obj)) (s:Ç) (σ:St) (H:Hp) (E:Æ->Ç->Prop),Inv X pins σ H s->(∀b∈fp,FpOk X pins H b)->tn i s.heap->J.stop i H->
  Ë (model P w) X.A (Ř (.ref it)) (λr s1=>r=none/\Inv X pins σ H s1) E s
 self:∀(A:Ā) (i:Nat) (s:Ç) (Q:Æ->Ç->Prop) (E:Æ->Ç->Prop),tn i s.heap->Q (.ref it) s->Ë (model P w) A (pyIter (.ref it)) Q E s
noncomputable abbrev TI:=St->Hp->(It->Hp->Prop)->Prop
noncomputable def PIE(X:Cx)(pins:List (Addr×Obj))(σ:St)(tg:Expr)(R:It->Hp->Prop)(itv:Æ)(s2:Ç):Prop:=
 ∃(it:Addr) (fp:List Addr) (tn:Nat->Heap->Prop) (J:It) (H':Hp),itv=.ref it/\Inv X pins σ H' s2/\Turn X.prog X.w X.K tg J fp it tn/\tn 0 s2.heap/\(∀b∈fp,FpOk X pins H' b)/\R J H'
noncomputable def PI(X:Cx)(tg iter:Expr)(wi:TI):Prop:=
 ∀(pins:List (Addr×Obj)) (s:Ç) (σ:St) (H:Hp) (R:It->Hp->Prop),Inv X pins σ H s->wi σ H R->
  Ë (model X.prog X.w) X.A (eval iter X.env) (λv s1=>Ë (model X.prog X.w) X.A (pyIter v) (PIE X pins σ tg R) X.xe s1) X.xe s
theorem go_of(ho:s.heap.get? it=some o)(hc:o.cls=.type n)(hd:o.data=.fields vs)
    (hn:["enumerate","zip","dict_itemiterator","dict_reverseitemiterator","odict_iterator","itertools.zip_longest","itertools.pairwise"].contains n=false) (hQ:Q () s):Ë M A (letOwnedTupleGo tg (.ref it) u) Q E s:=by
  unfold letOwnedTupleGo;cases tg<;>first
    |exact Ã hQ
    | (cases u<;>first
        |exact Ã hQ
        | (refine À (wpAny_load ho ?_)
           rw[hc,hd];show Ë M A (if (["enumerate","zip","dict_itemiterator","dict_reverseitemiterator","odict_iterator","itertools.zip_longest","itertools.pairwise"].contains n&&vs[0]? == some (đ _))=true then _ else _) Q E s;rw[if_neg (by intro h;rw[hn,Bool.false_and]at h;cases h)];exact Ã hQ))
noncomputable def Itl(K:Þ)(a:Addr):It:=
 ⟨λi H=>∃xs x,SqL K H a xs/\xs[i]?=some x,λi H x H'=>H'=H/\∀xs,SqL K H a xs->xs[i]?=some x,λi H=>∃xs,SqL K H a xs/\xs.length<=i⟩
noncomputable def Itt(K:Þ)(a:Addr):It:=
 ⟨λi H=>∃xs x,SqT K H a xs/\xs[i]?=some x,λi H x H'=>H'=H/\∀xs,SqT K H a xs->xs[i]?=some x,λi H=>∃xs,SqT K H a xs/\xs.length<=i⟩
noncomputable def Itr(lo:Int)(n:Nat):It:=⟨λi _=>i<n,λi H x H'=>H'=H/\x=.int (lo+i),λi _=>n<=i⟩
theorem yh9{P:Ü}{w:ï}{K:Þ}{tg:Expr}(a it:Addr):Turn P w K tg (Itl K a) [it] it (λi h=>h.IsListIter it a i) where
 mem:=by simp
 obj:=λi h st b hb=>by
  have e:b=it:=by simpa using hb
  subst e;obtain ⟨o,e,c,d⟩:=st;exact ⟨o,e,λv z=>by rw[d]at z;cases z⟩
 keep:=λi h h' st k=>st.at λo e=>k it (by simp) o e
 item:=by
  intro X hP hw hK hc i pins s σ H E I hf st hg;subst hP hw hK;obtain ⟨xs,x,hq,hx⟩:=hg;obtain ⟨its,rv,p,hz⟩:=I.list hq;obtain ⟨u,hu,ru⟩:=rv.get hx;obtain ⟨f0,f1,f2,f3,f4,f5⟩:=hf it (by simp);refine wpAny_pyNext_list_item st p.isList (x:=u) (by simpa using hu) λh' st' sb=>?_;have I1:Inv X pins σ H { s with heap:=h' }:=I.turned (t':=s.toks) (λb o hb e=>(sb.2 b hb).trans e) f0 f1 f3 f4 f5;obtain ⟨o,e,c,d⟩:=id st';exact ⟨u,rfl,go_of (s:={ s with heap:=h' }) e c d (by decide) ⟨x,H,I1,ru,⟨rfl,λys hy=>by rw[I.list_inj hy hq];exact hx⟩,st',λb hb=>(hf b hb).1⟩⟩
 done:=by
  intro X hP hw hK hc i pins s σ H E I hf st hg;subst hP hw hK;obtain ⟨xs,hq,hx⟩:=hg;obtain ⟨its,rv,p,hz⟩:=I.list hq;obtain ⟨f0,f1,f2,f3,f4,f5⟩:=hf it (by simp);have hl:=rv.length;exact wpAny_pyNext_list_end (I.ok.hd hc) st p.isList (by simp;omega) λh' eb=>⟨rfl,I.turned (t':=s.toks) (λb o hb e=>eb b o hb e) f0 f1 f3 f4 f5⟩
 self:=λ_ _ _ _ _ st h=>wpAny_pyIter_listiter st h
theorem qhv{P:Ü}{w:ï}{K:Þ}{tg:Expr}(a it:Addr):Turn P w K tg (Itt K a) [it] it (λi h=>h.IsTupleIter it a i) where
 mem:=by simp
 obj:=λi h st b hb=>by
  have e:b=it:=by simpa using hb
  subst e;obtain ⟨o,e,c,d⟩:=st;exact ⟨o,e,λv z=>by rw[d]at z;cases z⟩
 keep:=λi h h' st k=>st.at λo e=>k it (by simp) o e
 item:=by
  intro X hP hw hK hc i pins s σ H E I hf st hg;subst hP hw hK;obtain ⟨xs,x,hq,hx⟩:=hg;obtain ⟨its,rv,p,hz⟩:=I.tuple hq;obtain ⟨u,hu,ru⟩:=rv.get hx;obtain ⟨f0,f1,f2,f3,f4,f5⟩:=hf it (by simp);refine wpAny_pyNext_tuple_item st (show s.heap.IsTuple a its.toArray from p) (x:=u) (by simpa using hu) λh' st' sb=>?_;have I1:Inv X pins σ H { s with heap:=h' }:=I.turned (t':=s.toks) (λb o hb e=>(sb.2 b hb).trans e) f0 f1 f3 f4 f5;obtain ⟨o,e,c,d⟩:=id st';exact ⟨u,rfl,go_of (s:={ s with heap:=h' }) e c d (by decide) ⟨x,H,I1,ru,⟨rfl,λys hy=>by rw[I.tuple_inj hy hq];exact hx⟩,st',λb hb=>(hf b hb).1⟩⟩
 done:=by
  intro X hP hw hK hc i pins s σ H E I hf st hg;subst hP hw hK;obtain ⟨xs,hq,hx⟩:=hg;obtain ⟨its,rv,p,hz⟩:=I.tuple hq;obtain ⟨f0,f1,f2,f3,f4,f5⟩:=hf it (by simp);have hl:=rv.length;exact wpAny_pyNext_tuple_end (I.ok.hd hc) st (show s.heap.IsTuple a its.toArray from p) (by simp;omega) λh' eb=>⟨rfl,I.turned (t':=s.toks) (λb o hb e=>eb b o hb e) f0 f1 f3 f4 f5⟩
 self:=λ_ _ _ _ _ st h=>wpAny_pyIter_tupleiter st h
theorem yh4{P:Ü}{w:ï}{K:Þ}{tg:Expr}(it:Addr)(lo:Int)(n:Nat):Turn P w K tg (Itr lo n) [it] it (λi h=>IsRangeIter h it (lo+(i:Nat)*1) ((n:Int)-(i:Nat)) 1) where
 mem:=by simp
 obj:=λi h st b hb=>by
  have e:b=it:=by simpa using hb
  subst e;exact ⟨_,st,λv z=>by
   have z':Data.fields _=Data.cell v:=z;cases z'⟩
 keep:=λi h h' st k=>k it (by simp) _ st
 item:=by
  intro X hP hw hK hc i pins s σ H E I hf st hg;subst hP hw hK;obtain ⟨f0,f1,f2,f3,f4,f5⟩:=hf it (by simp);have W:=Walks.range (prog:=X.prog) (w:=X.w) (I.ok.hd hc) it lo 1 n;refine W.item i s _ _ hg st λv h' tk hv st' kk=>?_;obtain ⟨t,rfl⟩:=hv;have I1:Inv X pins σ H { s with heap:=h',toks:=tk }:=I.turned (λb o hb e=>kk b o (by simpa using hb) e) f0 f1 f3 f4 f5;refine ⟨_,rfl,go_of (s:={ s with heap:=h',toks:=tk }) (n:="range_iterator") st' rfl rfl (by decide) ⟨.int (lo+i),H,I1,⟨t,?_⟩,⟨rfl,rfl⟩,st',λb hb=>(hf b hb).1⟩⟩;rw[Int.mul_one]
 done:=by
  intro X hP hw hK hc i pins s σ H E I hf st hg;subst hP hw hK;obtain ⟨f0,f1,f2,f3,f4,f5⟩:=hf it (by simp);exact wpAny_pyNext_range_end (I.ok.hd hc) st (by have:n<=i:=hg;omega) λh' eb=>⟨rfl,I.turned (t':=s.toks) (λb o hb e=>eb b o hb e) f0 f1 f3 f4 f5⟩
 self:=λ_ _ _ _ _ st h=>wpAny_pyIter_rangeiter st h
section
variable {X:Cx}{tg:Expr}
theorem range_it{pins:List (Addr×Obj)}{σ:St}{H:Hp}{s:Ç}{R:It->Hp->Prop}{E:Æ->Ç->Prop}{lo hi:Int}{t u v:Tok}{tk:Nat}(I:Inv X pins σ H s)(h1:-(2 ^ 62)<=lo)(h2:lo<2 ^ 62)(h3:-(2 ^ 62)<=hi)(h4:hi<2 ^ 62)
  (q:R (Itr lo (hi-lo).toNat) H):Ë (model X.prog X.w) X.A (pyIter (.ref s.heap.objs.size)) (PIE X pins σ tg R) E { s with heap:=s.heap.push { cls:=.type "range",data:=.fields #[.int lo t,.int hi u,.int 1 v] },toks:=tk }:=by
 refine wpAny_pyIter_range (IsRange.new ..) (small_one h1 h2 h3 h4) ?_;have I1:Inv X pins σ H { s with heap:=s.heap.push { cls:=.type "range",data:=.fields #[.int lo t,.int hi u,.int 1 v] },toks:=tk }:=I.kept λb o e=>È _ e;refine ⟨(s.heap.push { cls:=.type "range",data:=.fields #[.int lo t,.int hi u,.int 1 v] }).objs.size,[(s.heap.push { cls:=.type "range",data:=.fields #[.int lo t,.int hi u,.int 1 v] }).objs.size],_,_,H,rfl,
  I1.kept (t':=tk) λb o e=>È _ e,yh4 _ lo (hi-lo).toNat,?_,λb hb=>?_,q⟩
 ·have e1:lo+((0:Nat):Int)*1=lo:=by simp
  have e2:(((hi-lo).toNat:Nat):Int)-((0:Nat):Int)=Builtin.Range.rangeSize lo hi 1:=by rw[rangeSize_one];split<;>omega
  show IsRangeIter _ _ (lo+((0:Nat):Int)*1) ((((hi-lo).toNat:Nat):Int)-((0:Nat):Int)) 1;rw[e1,e2];exact Ô _ rfl
 ·have e:b=(s.heap.push { cls:=.type "range",data:=.fields #[.int lo t,.int hi u,.int 1 v] }).objs.size:=by simpa using hb
  subst e;exact I1.fpOk (Ò _) (I1.hok.fresh (Ò _))
noncomputable def iRng1(ta:TA):TI:=λσ H R=>ta σ H λvs H1=>∃j:Int,vs=[.int j]/\-(2 ^ 62)<=j/\j<2 ^ 62/\R (Itr 0 j.toNat) H1
theorem yjk{a:Expr}{ta:TA}{p pos:Pos}(hg:Gl X "range")(hm:X.mg "range"=none)(ha:PA X [a] ta)(hs:â [a] X.env=[(false,eval a X.env)]:=by rfl):PI X tg (.Call (.Name "range" p) [a] [] pos) (iRng1 ta):=by
 intro pins s σ H R I h;refine Call_ (fq I hg hm boot_range (ċ (thn (ha pos pins s σ H _ I h) λus s1 ⟨vs,H1,I1,r1,q1⟩=>?_) hs rfl));obtain ⟨j,e,q1,q2,q⟩:=q1;subst e;cases r1 with
 |cons r rr=>
  cases rr;obtain ⟨t,rfl⟩:=r;exact call_range_1 (range_it I1 (by omega) (by omega) q1 q2 (by simpa using q))
noncomputable def tFor(wi:TI)(g:TG)(tb:TS):TS:=λD σ H=>wi σ H λJ H1=>∃W:Nat->Nat->St->Hp->Prop,(∃m,W 0 m σ H1)/\∀i m σ H,W i m σ H->
 (J.stop i H/\D.nx σ H)\/(J.go i H/\∃N:St->Hp->Prop,(∀σ' H',N σ' H'->∃m',m' < m/\W (i+1) m' σ' H')/\∀x H',J.yld i H x H'->g x σ H' λσ2 H2=>tb { D with nx:=N,ct:=N,bk:=D.nx } σ2 H2)
noncomputable def qe1(fp:List Addr)(h:Heap):List (Addr×Obj):=fp.filterMap λb=>(h.get? b).map λo=>(b,o)
theorem qbx(hb:b∈fp)(e:h.get? b=some o):(b,o)∈qe1 fp h:=List.mem_filterMap.mpr ⟨b,hb,by rw[e];rfl⟩
theorem yim(hp:p∈qe1 fp h):p.1∈fp/\h.get? p.1=some p.2:=by
 obtain ⟨b,hb,e⟩:=List.mem_filterMap.mp hp;cases q:h.get? b with
 |none=>rw[q]at e;cases e
 |some o=>
  rw[q]at e;have e':(b,o)=p:=ď e;subst e';exact ⟨hb,q⟩
theorem Inv.pinned(I:Inv X pins σ H s)(hf:∀b∈fp,FpOk X pins H b)(ho:∀b∈fp,∃o,s.heap.get? b=some o/\∀v,o.data≠.cell v):Inv X (pins++qe1 fp s.heap) σ H s:=
 I.pins_of λp hp=>(ŀ.mp hp).elim (λz=>I.pin p (ġ _ z)) λz=>by
  obtain ⟨hb,e⟩:=yim z;obtain ⟨f0,f1,f2,_⟩:=hf p.1 hb;obtain ⟨o,e',d⟩:=ho p.1 hb;rw[e]at e';cases e';exact ⟨e,f0,f1,f2,d⟩
theorem Inv.unpinned(I:Inv X (pins++pl) σ H s):Inv X pins σ H s:=I.pins_of λp hp=>I.pin p (ġ _ (List.mem_append_left _ hp))
theorem ps_for(hp:PassesOwn (model X.prog X.w) X.A X.env X.xe)(hc:X.calm=true)(hi:PI X tg iter wi)(hg:PG X tg g)(hb:PSs X body tb)
  (hs:∀x,foldedSetIterable iter X.env x=pure x:=by intro _;rfl):PS X (.For tg iter body [] pos) (tFor wi g tb):=by
 intro pins s σ H D I h;refine wpAny_For (thn (hi pins s σ H _ I h) λv s1 h1=>thn h1 λitv s2 h2=>?_) hs;obtain ⟨it,fp,tn,J,H2,e,I2,T,st2,f2,W,⟨m0,w0⟩,turn⟩:=h2;subst e
 -- what stays true of the iterator's objects through the loop
 have stat:∀{H':Hp},(∀b∈fp,H' b=none)->∀b∈fp,FpOk X pins H' b:=λhn b hb=>⟨hn b hb,(f2 b hb).2⟩;refine codeAny_forLoop_any (λn s'=>∃i σ' H',Inv X pins σ' H' s'/\tn i s'.heap/\(∀b∈fp,H' b=none)/\W i n σ' H') ?_ m0 ⟨0,σ,H2,I2,st2,λb hb=>(f2 b hb).1,w0⟩;rintro n s3 ⟨i,σ3,H3,I3,st3,fr3,w3⟩;rcases turn i n σ3 H3 w3 with ⟨stop,qn⟩|⟨go,N,hN,step⟩
 ·refine aS hp (thn (T.done X rfl rfl rfl hc i pins s3 σ3 H3 X.xe I3 (stat fr3) st3 stop) λr s4 ⟨hr,I4⟩=>?_);subst hr;exact wpAny_execs_nil ⟨σ3,H3,I4,qn⟩
 ·refine aS hp (thn (T.item X rfl rfl rfl hc i pins s3 σ3 H3 X.xe I3 (stat fr3) st3 go) λr s4 ⟨u,hr,h4⟩=>?_);subst hr;refine aS hp (thn h4 λ_ s5 ⟨x,H5,I5,r5,y5,st5,fr5⟩=>?_);have I5':=I5.pinned (stat fr5) (T.obj _ _ st5);refine aS hp (thn (hg _ s5 σ3 H5 x u _ I5' r5 (step x H5 y5)) λ_ s6 ⟨σ6,H6,I6,q6⟩=>?_);refine aS hp (thn (hb _ s6 σ6 H6 _ I6 q6) λf s7 q7=>?_);have again:∀{σ7:St}{H7:Hp},Inv X (pins++qe1 fp s5.heap) σ7 H7 s7->N σ7 H7->∃m,m<n/\∃i σ' H',Inv X pins σ' H' s7/\tn i s7.heap/\(∀b∈fp,H' b=none)/\W i m σ' H':=λ{σ7 H7} I7 n7=>by
   obtain ⟨m',hm,w7⟩:=hN σ7 H7 n7;refine ⟨m',hm,i+1,σ7,H7,I7.unpinned,T.keep _ _ _ st5 λb hb o e=>(I7.pin (b,o) (ġ _ (ġ _ (qbx hb e)))).1,λb hb=>?_,w7⟩;obtain ⟨o,e,d⟩:=T.obj _ _ st5 b hb;exact (I7.pin (b,o) (ġ _ (ġ _ (qbx hb e)))).2.1
  cases f with
  |next=>obtain ⟨σ7,H7,I7,n7⟩:=q7;exact again I7 n7
  |cont=>obtain ⟨σ7,H7,I7,n7⟩:=q7;exact again I7 n7
  |brk=>obtain ⟨σ7,H7,I7,q7⟩:=q7;exact ⟨σ7,H7,I7.unpinned,q7⟩
  |ret v=>obtain ⟨x7,σ7,H7,I7,r7,q7⟩:=q7;exact ⟨x7,σ7,H7,I7.unpinned,r7,q7⟩
end
noncomputable abbrev R2:=V->V->Hp->VK->Prop
noncomputable def OpR(X:Cx)(f:Æ->Æ->Sem Æ)(r:R2):Prop:=
 ∀(pins:List (Addr×Obj)) (s:Ç) (σ:St) (H:Hp) (x y:V) (v u:Æ) (Q:VK),Inv X pins σ H s->RelV x v->RelV y u->r x y H Q->
  Ë (model X.prog X.w) X.A (f v u) (EP X pins σ Q) X.xe s
noncomputable def UnR(X:Cx)(f:Æ->Sem Æ)(r:V->Hp->VK->Prop):Prop:=
 ∀(pins:List (Addr×Obj)) (s:Ç) (σ:St) (H:Hp) (x:V) (v:Æ) (Q:VK),Inv X pins σ H s->RelV x v->r x H Q->
  Ë (model X.prog X.w) X.A (f v) (EP X pins σ Q) X.xe s
noncomputable def bH(X:Cx)(f:Æ)(r:List V->Hp->VK->Prop):Prop:=
 ∀(pins:List (Addr×Obj)) (s:Ç) (σ:St) (H:Hp) (xs:List V) (us:List Æ) (Q:VK),Inv X pins σ H s->Vals xs us->r xs H Q->
  Ë (model X.prog X.w) X.A (call f us) (EP X pins σ Q) X.xe s
noncomputable def tOp(r:R2)(ta tb:TE):TE:=λσ H Q=>ta σ H λx H1=>tb σ H1 λy H2=>r x y H2 Q
noncomputable def tUn(r:V->Hp->VK->Prop)(ta:TE):TE:=λσ H Q=>ta σ H λx H1=>r x H1 Q
noncomputable def rI(C:Int->Int->Prop)(g:Int->Int->V):R2:=λx y H Q=>∃i j,x=.int i/\y=.int j/\C i j/\Q (g i j) H
noncomputable def rI0(g:Int->Int->V):R2:=λx y H Q=>∃i j,x=.int i/\y=.int j/\Q (g i j) H
noncomputable def rU(g:Int->V):V->Hp->VK->Prop:=λx H Q=>∃i,x=.int i/\Q (g i) H
section
variable {X:Cx}{a b c:Expr}{ta tb tc:TE}{pos:Pos}
theorem binT(ha:PE X a ta)(hb:PE X b tb){pins:List (Addr×Obj)}{s:Ç}{σ:St}{H:Hp}{R:V->V->Hp->Prop}(I:Inv X pins σ H s)
  (h:ta σ H λx H1=>tb σ H1 λy H2=>R x y H2) {Q:Æ->Ç->Prop}{f:Æ->Æ->Sem Æ}
  (hf:∀v u s2 x y H2,Inv X pins σ H2 s2->RelV x v->RelV y u->R x y H2->Ë (model X.prog X.w) X.A (f v u) Q X.xe s2) :
  Ë (model X.prog X.w) X.A (eval a X.env) (λv s₁=>Ë (model X.prog X.w) X.A (eval b X.env) (λu s₂=>Ë (model X.prog X.w) X.A (f v u) Q X.xe s₂) X.xe s₁) X.xe s:=by
 refine thn (ha pins s σ H _ I h) λv s1 ⟨x,H1,I1,r1,q1⟩=>?_;refine thn (hb pins s1 σ H1 _ I1 q1) λu s2 ⟨y,H2,I2,r2,q2⟩=>?_;exact hf v u s2 x y H2 I2 r1 r2 q2
theorem pe_op(ho:OpR X (Ń op) r)(ha:PE X a ta)(hb:PE X b tb):PE X (.BinOp a op b pos) (tOp r ta tb):=by
 intro pins s σ H Q I h;exact wpAny_BinOp (binT ha hb I h λv u s2 x y H2 I2 rx ry q=>ho pins s2 σ H2 x y v u Q I2 rx ry q)
theorem pe_un(ho:UnR X (unaryOp op) r)(ha:PE X a ta):PE X (.UnaryOp op a pos) (tUn r ta):=by
 intro pins s σ H Q I h;exact UnaryOp_ (thn (ha pins s σ H _ I h) λv s1 ⟨x,H1,I1,r1,q1⟩=>ho pins s1 σ H1 x v Q I1 r1 q1)
theorem opI{f:Æ->Æ->Sem Æ}{C:Int->Int->Prop}{g:Int->Int->Int}
  (rule:∀(i j:Int) (t u:Tok) (s:Ç) (Q:Æ->Ç->Prop) (E:Æ->Ç->Prop),C i j->Q (.int (g i j) s.toks) { s with toks:=s.toks+1 }->Ë (model X.prog X.w) X.A (f (.int i t) (.int j u)) Q E s) :
  OpR X f (rI C λi j=>.int (g i j)):=by
 intro pins s σ H x y v u Q I rx ry h;obtain ⟨i,j,rfl,rfl,hc,q⟩:=h;obtain ⟨t,rfl⟩:=rx;obtain ⟨t',rfl⟩:=ry;exact rule i j t t' s _ _ hc ⟨.int (g i j),H,I.tok _,⟨_,rfl⟩,q⟩
theorem opI0{f:Æ->Æ->Sem Æ}{g:Int->Int->Int}
  (rule:∀(i j:Int) (t u:Tok) (s:Ç) (Q:Æ->Ç->Prop) (E:Æ->Ç->Prop),Q (.int (g i j) s.toks) { s with toks:=s.toks+1 }->Ë (model X.prog X.w) X.A (f (.int i t) (.int j u)) Q E s) :
  OpR X f (rI0 λi j=>.int (g i j)):=by
 intro pins s σ H x y v u Q I rx ry h;obtain ⟨i,j,rfl,rfl,q⟩:=h;obtain ⟨t,rfl⟩:=rx;obtain ⟨t',rfl⟩:=ry;exact rule i j t t' s _ _ ⟨.int (g i j),H,I.tok _,⟨_,rfl⟩,q⟩
theorem opB0{f:Æ->Æ->Sem Æ}{g:Int->Int->Bool}
  (rule:∀(i j:Int) (t u:Tok) (s:Ç) (Q:Æ->Ç->Prop) (E:Æ->Ç->Prop),Q (.bool (g i j)) s->Ë (model X.prog X.w) X.A (f (.int i t) (.int j u)) Q E s) :
  OpR X f (rI0 λi j=>.bl (g i j)):=by
 intro pins s σ H x y v u Q I rx ry h;obtain ⟨i,j,rfl,rfl,q⟩:=h;obtain ⟨t,rfl⟩:=rx;obtain ⟨t',rfl⟩:=ry;exact rule i j t t' s _ _ ⟨.bl (g i j),H,I,rfl,q⟩
noncomputable def CPow(i j:Int):Prop:=0<=j/\j<=1000000/\i.natAbs<2 ^ 64
noncomputable def CMul(i j:Int):Prop:=(-(2 ^ 64)<i/\i<2 ^ 64)\/(-(2 ^ 64)<j/\j<2 ^ 64)
theorem CMul.ok(h:CMul i j):IntMulOk i j:=by
 rcases h with ⟨h1,h2⟩|⟨h1,h2⟩
 ·exact .of_left (intBits_le_64 h1 h2)
 ·exact .of_right (intBits_le_64 h1 h2)
theorem op_add:OpR X (Ń .Add) (rI0 λi j=>.int (i+j)):=opI0 λ_ _ _ _ _ _ _ q=>add_int q
theorem op_sub:OpR X (Ń .Sub) (rI0 λi j=>.int (i-j)):=opI0 λ_ _ _ _ _ _ _ q=>sub_int q
theorem op_mul:OpR X (Ń .Mult) (rI CMul λi j=>.int (i*j)):=opI λ_ _ _ _ _ _ _ hc q=>mul_int q hc.ok
theorem op_mod:OpR X (Ń .Mod) (rI (λ_ j=>0<j) λi j=>.int (i % j)):=opI λi j _ _ _ _ _ hc q=>by
 have h1:(0:Int)<j:=hc;exact mod_int' (by omega) (by rw[Int.fmod_eq_emod_of_nonneg i (by omega)];exact q)
theorem op_pow:OpR X (Ń .Pow) (rI CPow λi j=>.int (i ^ j.toNat)):=opI λ_ _ _ _ _ _ _ hc q=>pow_int_small hc.1 hc.2.1 hc.2.2 q
theorem unI{f:Æ->Sem Æ}{g:Int->Int}
  (rule:∀(i:Int) (t:Tok) (s:Ç) (Q:Æ->Ç->Prop) (E:Æ->Ç->Prop),Q (.int (g i) s.toks) { s with toks:=s.toks+1 }->Ë (model X.prog X.w) X.A (f (.int i t)) Q E s) :
  UnR X f (rU λi=>.int (g i)):=by
 intro pins s σ H x v Q I rx h;obtain ⟨i,rfl,q⟩:=h;obtain ⟨t,rfl⟩:=rx;exact rule i t s _ _ ⟨.int (g i),H,I.tok _,⟨_,rfl⟩,q⟩
theorem un_neg:UnR X (unaryOp .USub) (rU λi=>.int (-i)):=unI λ_ _ _ _ _ q=>neg_int q
theorem op_lt:OpR X (ĕ .Lt) (rI0 λi j=>.bl (decide (i<j))):=opB0 λ_ _ _ _ _ _ _ q=>lt_int q
theorem op_le:OpR X (ĕ .LtE) (rI0 λi j=>.bl (decide (i<=j))):=opB0 λ_ _ _ _ _ _ _ q=>le_int q
theorem op_gt:OpR X (ĕ .Gt) (rI0 λi j=>.bl (decide (j<i))):=opB0 λ_ _ _ _ _ _ _ q=>gt_int q
theorem op_ge:OpR X (ĕ .GtE) (rI0 λi j=>.bl (decide (j<=i))):=opB0 λ_ _ _ _ _ _ _ q=>ge_int q
theorem OpR.or(h:OpR X f r)(h':OpR X f r'):OpR X f (λx y H Q=>r x y H Q\/r' x y H Q):=by
 intro pins s σ H x y v u Q I rx ry q;rcases q with q|q
 ·exact h pins s σ H x y v u Q I rx ry q
 ·exact h' pins s σ H x y v u Q I rx ry q
theorem yjw(ho:OpR X (ĕ op) r)(ha:PE X a ta)(hb:PE X b tb)(hm:Ŏ op b=false):PE X (.Compare a [op] [b] pos) (tOp r ta tb):=by
 intro pins s σ H Q I h;exact wpAny_Compare1 (binT ha hb I h λv u s2 x y H2 I2 rx ry q=>ho pins s2 σ H2 x y v u Q I2 rx ry q) hm
noncomputable def tTest(t:TE):TT:=λσ H Q=>t σ H λx H'=>∃k,x=.bl k/\Q k H'
theorem qj8(ho:OpR X (ĕ op) r)(ha:PE X a ta)(hb:PE X b tb)(hm:Ŏ op b=false):PT X (.Compare a [op] [b] pos) (tTest (tOp r ta tb)):=by
 intro pins s σ H Q I h;refine wpAny_isTrue_Compare1 (thn (ha pins s σ H _ I h) λv s1 ⟨x,H1,I1,r1,q1⟩=>thn (hb pins s1 σ H1 _ I1 q1) λu s2 ⟨y,H2,I2,r2,q2⟩=>
  thn (ho pins s2 σ H2 x y v u _ I2 r1 r2 q2) λc s3 ⟨z,H3,I3,r3,k,e,q3⟩=>?_) hm
 subst e;cases r3;exact Ķ ⟨H3,I3,q3⟩
theorem yd7:(Õ:Nat)<2 ^ 63:=by rw[sizeLine_eq];decide
theorem yhv:OpR X (Ń .Add) (λx y H Q=>∃i j,x=.str i/\y=.str j/\i.length+j.length<=Õ/\Q (.str (i++j)) H):=by
 intro pins s σ H x y v u Q I rx ry h;obtain ⟨i,j,rfl,rfl,hz,q⟩:=h;obtain ⟨t,rfl⟩:=rx;obtain ⟨t',rfl⟩:=ry;exact add_str (λt' tk=>⟨.str (i++j),H,I.tok _,⟨_,rfl⟩,q⟩) hz
theorem qfk(r:Vals [x] us):∃u,us=[u]/\RelV x u:=by
 cases r with
 |cons r1 r2=>cases r2;exact ⟨_,rfl,r1⟩
theorem vals2(r:Vals [x,y] us):∃u w',us=[u,w']/\RelV x u/\RelV y w':=by
 cases r with
 |cons r1 r2=>
  cases r2 with
  |cons r3 r4=>cases r4;exact ⟨_,_,rfl,r1,r3⟩
theorem call_abs:bH X (.builtin "abs") (λxs H Q=>∃i,xs=[.int i]/\Q (.int (if i<0 then -i else i)) H):=by
 intro pins s σ H xs us Q I r h;obtain ⟨i,rfl,q⟩:=h;obtain ⟨u,rfl,t,rfl⟩:=qfk r;exact call_abs_int λu tk=>⟨.int (if i<0 then -i else i),H,I.tok _,⟨_,rfl⟩,q⟩
theorem qjy(hc:X.calm=true):bH X (.builtin "max") (λxs H Q=>∃i j,xs=[.int i,.int j]/\Q (.int (if j>i then j else i)) H):=by
 intro pins s σ H xs us Q I r h;obtain ⟨i,j,rfl,q⟩:=h;obtain ⟨u,w',rfl,⟨t,rfl⟩,⟨t',rfl⟩⟩:=vals2 r;refine max_two_ints (I.ok.hd hc) λh' tk k=>⟨_,H,I.kept k,?_,q⟩;by_cases hj:j>i
 ·rw[if_pos hj,if_pos hj];exact ⟨_,rfl⟩
 ·rw[if_neg hj,if_neg hj];exact ⟨_,rfl⟩
theorem qkd(hc:X.calm=true):bH X (.builtin "min") (λxs H Q=>∃i j,xs=[.int i,.int j]/\Q (.int (if j<i then j else i)) H):=by
 intro pins s σ H xs us Q I r h;obtain ⟨i,j,rfl,q⟩:=h;obtain ⟨u,w',rfl,⟨t,rfl⟩,⟨t',rfl⟩⟩:=vals2 r;refine min_two_ints (I.ok.hd hc) λh' tk k=>⟨_,H,I.kept k,?_,q⟩;by_cases hj:j<i
 ·rw[if_pos hj,if_pos hj];exact ⟨_,rfl⟩
 ·rw[if_neg hj,if_neg hj];exact ⟨_,rfl⟩
theorem qif:bH X (.type "int") (λxs H Q=>(∃i,xs=[.int i]/\Q (.int i) H)\/∃k,xs=[.bl k]/\Q (.int (if k then 1 else 0)) H):=by
 intro pins s σ H xs us Q I r h;rcases h with ⟨i,rfl,q⟩|⟨k,rfl,q⟩
 ·obtain ⟨u,rfl,t,rfl⟩:=qfk r;exact call_int_int ⟨.int i,H,I,⟨_,rfl⟩,q⟩
 ·obtain ⟨u,rfl,r1⟩:=qfk r;cases r1;exact call_int_bool ⟨.int (if k then 1 else 0),H,I.tok _,⟨_,rfl⟩,q⟩
end
structure ObjM(h:Heap)(x dx C:Addr)(mA:Str->Option Æ):Prop where
 obj:h.get? x=some (W.instObj C dx)
 ns:h.Ns1 dx mA
 ne:dx≠x
theorem yik{h:Heap}{dx:Addr}{mA:Str->Option Æ}(n:h.Ns1 dx mA):∃od,h.get? dx=some od/\∀name,W.lookIn name od=some (mA name):=by
 obtain ⟨o,es,ep,ho,hd,hk,_,hm⟩:=n;refine ⟨o,ho,λname=>?_⟩;have e:=hm name;unfold nsFind findBy at e;rw[<-Array.find?_toList]at e;unfold W.lookIn;rw[hd];dsimp only;split
 ·rename_i y q
  rw[q]at e;exact congrArg some e
 ·rename_i q
  rw[q]at e;have a:es.toList.any (·.refKey)=false:=by
   rw[List.any_eq_false];intro y hy;obtain ⟨z,t,hkey⟩:=hk y (Array.mem_toList_iff.mp hy);simp[DictEntry.refKey,hkey]
  have a':¬ es.toList.any (·.refKey)=true:=by rw[a];exact ú
  rw[if_neg a'];exact congrArg some e
theorem ObjM.look(I:ObjM h x dx C mA):∃od,W.InstAt h x (W.instObj C dx) C (some od)/\∀name,W.lookIn name od=some (mA name):=
 let ⟨od,ho,hl⟩:=yik I.ns
 ⟨od,⟨I.obj,rfl,rfl,ho⟩,hl⟩
section
variable {prog:Ü}{w:ï}{A:Ā}{E:Æ->Ç->Prop}{s:Ç}{K:Þ}{x dx C f:Addr}{mA:Str->Option Æ}{name:Str}{v:Æ}
theorem get_map(X:K.In s.heap)(I:ObjM s.heap x dx C mA)(hg:W.plainGet K C name=true)(hh:W.hasDictIn K C=true)
  (ha:ũ K (.ref C) name=some none) (hv:mA name=some v) (hv':W.handedIn v=true) (h:Q v { s with toks:=s.toks+1 }) :
  Ë (model prog w) A (getAttr (.ref x) name expr) Q E s:=by
 obtain ⟨od,J,hl⟩:=I.look;exact W.get_value X J (W.plainGet_of hg).1 (W.findObj_own hh ha rfl (by rw[hl,hv])) hv' h
theorem get_meth(X:K.In s.heap)(I:ObjM s.heap x dx C mA)(hg:W.plainGet K C name=true)
  (hf:ũ K (.ref C) name=some (some (.ref f))) (ht:W.isFn K (.ref f)=true) (hv:mA name=none) (h:Q (.ref f,[.ref x]) s) :
  Ë (model prog w) A (getMethod (.ref x) name pl) Q E s:=by
 obtain ⟨od,J,hl⟩:=I.look;exact W.method_fn X J (W.plainGet_of hg).1 (W.plainGet_of hg).2 hf (beq_iff_eq.mp ht) (by show (W.lookIn name od).map (·.isSome)=some false;rw[hl,hv];rfl) h
theorem set_map(X:K.In s.heap)(I:ObjM s.heap x dx C mA)
  (hs:ũ K (.ref C) "__setattr__"=some (some (.builtin "object.__setattr__"))) (hp:W.plainOver K C=true) (ht:W.takerIn K C name=some none) (hh:W.hasDictIn K C=true)
  (hw:PySem.Within mA ns) (hsz:ns.length<=Õ)
  (h:∀h',ObjM h' x dx C (λy=>if y=name then some v else mA y)->ü dx s.heap h'->Q () { s with heap:=h',toks:=s.toks+2 }) :
  Ë (model prog w) A (setAttr (.ref x) name v) Q E s:=by
 obtain ⟨od,J,hl⟩:=I.look;refine W.set_plain X J hs (W.osa_open (s:={ s with toks:=s.toks+1 }) (r:=none) X J hp ht λb=>?_);obtain ⟨cd,hc,hd'⟩:=W.any_some hh;have hx:s.heap.get? x=some ⟨.ref C,some dx,.plain,#[]⟩:=I.obj;refine À (Ã (À (À (wpAny_loadPart hx (À (W.Looks.here (s:={ s with toks:=s.toks+1 }) (W.looks_clsIn X hc) ?_))))));rw[hd'];refine Ã (a:=some dx) (À (Ã (À ?_)));refine wpAny_nsSet1 (s:={ s with toks:=s.toks+1 }) I.ns λh' hn2 hs2=>?_;obtain ⟨oD,esD,epD,hoD,hdD,hcD⟩:=hn2.count (PySem.Within.cons name v hw);refine À (wpAny_lookBehind hoD (by rw[hdD];exact pastItsLine_dict (Ğ hcD (by rw[Ė];omega))) ?_);exact Ã (h _ ⟨(hs2.2 _ (ń I.ne)).trans I.obj,hn2,I.ne⟩ hs2)
theorem make_map(X:K.In s.heap)(hm:W.makesIn K C=true)
  (hi:ũ K (.ref C) "__init__"=some (some (.ref f))) (hf:W.typeIn K (.ref f)=some (.type "function"))
  (h:ag (model prog w) (A.under (.builtin "type.__call__" ⟨.ref C::vs,kw⟩)) (.call (.ref f) ⟨.ref (s.heap.objs.size+1)::vs,kw⟩) (W.InitBack (s.heap.objs.size+1) R)
   {s with heap:=(s.heap.push Ÿ).push (W.instObj C s.heap.objs.size) }) :
  ag (model prog w) A (.call (.ref C) ⟨vs,kw⟩) R s:=by
 obtain ⟨hh,g,d,t,os⟩:=s;exact W.make_core (W.makes_of X hm) (W.looks_findIn X hi) (λself=>W.bind_fn X self hf) (.inl rfl) h
end
noncomputable def aR(f:Str)(v:V):List (Str×V)->List (Str×V)
 |[]=>[(f,v)]
 | (g,x)::r=>if g=f then (g,v)::r else (g,x)::aR f v r
theorem ydj(f g:Str)(v:V):∀fs:List (Str×V),(aR f v fs).lookup g=if g=f then some v else fs.lookup g
 |[]=>by
  show ao g [(f,v)]=_;by_cases h:g=f
  ·have hb:(g == f)=true:=beq_iff_eq.mpr h;simp only[ao,hb,if_pos h]
  ·have hb:(g == f)=false:=beq_eq_false_iff_ne.mpr h;simp only[ao,hb,if_neg h]
 | (k,x)::r=>by
  have ih:=ydj f g v r;rw[show aR f v ((k,x)::r)=(if k=f then (k,v)::r else (k,x)::aR f v r) from rfl];by_cases hk:k=f
  ·rw[if_pos hk];by_cases h:g=k
   ·have hb:(g == k)=true:=beq_iff_eq.mpr h;simp only[ao,hb,if_pos (h.trans hk)]
   ·have hb:(g == k)=false:=beq_eq_false_iff_ne.mpr h;simp only[ao,hb,if_neg (λe:g=f=>h (e.trans hk.symm))]
  ·rw[if_neg hk];by_cases h:g=k
   ·have hb:(g == k)=true:=beq_iff_eq.mpr h;simp only[ao,hb,if_neg (λe:g=f=>hk (h.symm.trans e))]
   ·have hb:(g == k)=false:=beq_eq_false_iff_ne.mpr h;simp only[ao,hb];exact ih
theorem qdo(f:Str)(v:V):∀fs:List (Str×V),f∈(aR f v fs).map (·.1)/\∀g,g∈fs.map (·.1)->g∈(aR f v fs).map (·.1)
 |[]=>⟨by simp[aR],λg h=>by simp at h⟩
 | (k,x)::r=>by
  obtain ⟨i1,i2⟩:=qdo f v r;rw[show aR f v ((k,x)::r)=(if k=f then (k,v)::r else (k,x)::aR f v r) from rfl];by_cases hk:k=f
  ·rw[if_pos hk];subst hk;exact ⟨by simp,λg h=>by simpa using h⟩
  ·rw[if_neg hk];refine ⟨?_,λg h=>?_⟩
   ·rw[þ];exact Ê _ i1
   ·rw[þ]at h ⊢;rcases ñ.mp h with e|e
    ·exact mem_cons.mpr (.inl e)
    ·exact Ê _ (i2 g e)
theorem qdd(f:Str)(v:V):∀fs:List (Str×V),(aR f v fs).length<=fs.length+1
 |[]=>by simp[aR]
 | (k,x)::r=>by
  have ih:=qdd f v r;rw[show aR f v ((k,x)::r)=(if k=f then (k,v)::r else (k,x)::aR f v r) from rfl];by_cases hk:k=f
  ·rw[if_pos hk,Ė,Ė];omega
  ·rw[if_neg hk,Ė,Ė];omega
theorem RelO.some_of(r:RelO (some v) o):∃u,o=some u/\RelV v u:=by
 cases o with
 |none=>exact (show False from r).elim
 |some u=>exact ⟨u,rfl,r⟩
theorem RelO.none_of(r:RelO none o):o=none:=by
 cases o with
 |none=>rfl
 |some u=>exact (show False from r).elim
theorem yjq(r:RelV v u):W.handedIn u=true:=by
 cases v with
 |non=>cases (show u=ó from r);rfl
 |bl b=>cases (show u=ŋ b from r);rfl
 |int i=>obtain ⟨t,e⟩:=(show ∃t,u=Ρ i t from r);cases e;rfl
 |str x=>obtain ⟨t,e⟩:=(show ∃t,u=Value.str x t from r);cases e;rfl
 |byt b=>obtain ⟨t,e⟩:=(show ∃t,u=Value.bytes b t from r);cases e;rfl
 |flt b=>obtain ⟨t,e⟩:=(show ∃t,u=Value.float b t from r);cases e;rfl
 |ref a=>cases (show u=ã a from r);rfl
 |ty n=>cases (show u=Ο n from r);rfl
section
variable {P:Ü}{w:ï}{H H':Hp}{h h':Heap}{a C dx:Addr}{fs fs':List (Str×V)}
theorem qex(hok:HOk P w H h)(e:H a=some (.ins C dx fs)):∃mA,ObjM h a dx C mA/\(∀f,RelO (fs.lookup f) (mA f))/\PySem.Within mA (fs.map (·.1))/\fs.length<=1000/\H dx=some (.own a):=by
 obtain ⟨d,z,ne,ob,mA,n,r,q⟩:=(show bh P w H h a (.ins C dx fs) from hok a _ e);exact ⟨mA,⟨ob,n,ne⟩,r,q,z,d⟩
end
structure Cls(K:Þ)(C:Addr):Prop where
 pg:W.plainGet K C Str.empty=true
 hd:W.hasDictIn K C=true
 po:W.plainOver K C=true
 sa:ũ K (.ref C) "__setattr__"=some (some (.builtin "object.__setattr__"))
theorem Cls.get{K:Þ}{C:Addr}(c:Cls K C)(f:Str):W.plainGet K C f=true:=c.pg
noncomputable def qcx(K:Þ)(C:Addr)(f:Str):Prop:=ũ K (.ref C) f=some none
theorem qcx.taker{K:Þ}{C:Addr}{f:Str}(n:qcx K C f):W.takerIn K C f=some none:=by
 unfold W.takerIn;rw[show ũ K (.ref C) f=some none from n];rfl
structure Meth(K:Þ)(C:Addr)(m:Str)(f:Addr):Prop where
 at_:ũ K (.ref C) m=some (some (.ref f))
 fn:W.isFn K (.ref f)=true
 kp:Ξ K (.ref f)=true
section
variable {X:Cx}{pins:List (Addr×Obj)}{σ:St}{H:Hp}{s:Ç}{a C dx:Addr}{fs:List (Str×V)}{f:Str}{v:V}{A:Ā}{E:Æ->Ç->Prop}
theorem qhj(I:Inv X pins σ H s)(e:H a=some (.ins C dx fs))(c:Cls X.K C)(n:qcx X.K C f)(l:fs.lookup f=some v)
  (h:∀u s',Inv X pins σ H s'->RelV v u->Q u s'):Ë (model X.prog X.w) A (getAttr (.ref a) f b) Q E s:=by
 obtain ⟨mA,O,r,_,_,_⟩:=qex I.hok e;obtain ⟨u,hu,ru⟩:=RelO.some_of (v:=v) (o:=mA f) (by rw[<-l];exact r f);exact get_map I.kIn O (c.get f) c.hd n hu (yjq ru) (h u _ (I.tok _) ru)
theorem yck(I:Inv X pins σ H s)(e:H a=some (.ins C dx fs))(c:Cls X.K C)(k:Meth X.K C m g)(l:fs.lookup m=none)
  (h:Q (.ref g,[.ref a]) s):Ë (model X.prog X.w) A (getMethod (.ref a) m pl) Q E s:=by
 obtain ⟨mA,O,r,_,_,_⟩:=qex I.hok e;have hn:mA m=none:=RelO.none_of (by rw[<-l];exact r m);exact get_meth I.kIn O (c.get m) k.at_ k.fn hn h
theorem yhq(I:Inv X pins σ H s)(e:H a=some (.ins C dx fs))(c:Cls X.K C)(n:qcx X.K C f)(hl:fs.length<1000)(ry:RelV y u)
  (h:∀s',Inv X pins σ (upd H a (.ins C dx (aR f y fs))) s'->Q () s'):Ë (model X.prog X.w) A (setAttr (.ref a) f u) Q E s:=by
 obtain ⟨mA,O,r,wi,_,ho⟩:=qex I.hok e;have hz:(fs.map (·.1)).length<=Õ:=by rw[Ð,sizeLine_eq];omega
 refine set_map I.kIn O c.sa c.po n.taker c.hd wi hz λh' O' sb=>h _ ?_;have hd:∃o,h'.get? dx=some o:=let ⟨o,_,_,e',_⟩:=O'.ns;⟨o,e'⟩;refine I.write (x:=a) (e:=dx) (by rw[e];exact į) (.inr ho) (λb q hb z=>(sb.2 b hb).trans z) hd ?_;refine ⟨by rw[Δ O.ne];exact ho,?_,O.ne,O'.obj,_,O'.ns,λg=>?_,λg hg=>?_⟩
 ·have:=qdd f y fs;omega
 ·show RelO ((aR f y fs).lookup g) (if g=f then some u else mA g);rw[ydj];by_cases q:g=f
  ·rw[if_pos q,if_pos q];exact ry
  ·rw[if_neg q,if_neg q];exact r g
 ·by_cases q:g=f
  ·rw[q];exact (qdo f y fs).1
  ·refine (qdo f y fs).2 g (wi g λz=>hg ?_);show (if g=f then some u else mA g)=none;rw[if_neg q];exact z
theorem Inv.made(I:Inv X pins σ H s):Inv X pins σ (upd (upd H s.heap.objs.size (.own (s.heap.objs.size+1))) (s.heap.objs.size+1) (.ins C s.heap.objs.size []))
  {s with heap:=(s.heap.push Ÿ).push (W.instObj C s.heap.objs.size) }:=by
 have e1:(s.heap.push Ÿ).get? s.heap.objs.size=some Ÿ:=Ô s.heap rfl;have e2:((s.heap.push Ÿ).push (W.instObj C s.heap.objs.size)).get? (s.heap.objs.size+1)=some (W.instObj C s.heap.objs.size):=by
  have:=Ô (s.heap.push Ÿ) (o:=W.instObj C s.heap.objs.size) rfl
  rwa [Ŀ]at this
 have e3:(s.heap.push Ÿ).Ns s.heap.objs.size (λ_=>none):=⟨Ÿ,#[],_,e1,rfl,(λe he=>absurd he (by simp)),λ_=>rfl⟩;have I1:=I.laid (a:=s.heap.objs.size) (o:=.own (s.heap.objs.size+1)) (h':=s.heap.push Ÿ) (t':=s.toks) (λb u q=>È _ q) (Ò _) ⟨_,e1⟩;refine I1.laid (a:=s.heap.objs.size+1) (o:=.ins C s.heap.objs.size []) (t':=s.toks) (λb u q=>È _ q) (Nat.le_of_eq (Ŀ _ _)) ?_;have ne:s.heap.objs.size≠s.heap.objs.size+1:=ĉ (Nat.lt_succ_self _);refine ⟨by rw[Δ ne,bB],ķ _,ne,e2,λ_=>none,(Heap.Ns1.of_empty e3).at λo q=>È _ q,λ_=>į,λy hy=>absurd rfl hy⟩
theorem attr_of(hb:Ű e f env (eval e env)=eval e env)
  (h:Ë (model prog w) A (eval e env) (λo s₁=>Ë (model prog w) A (getAttr o f true) Q E s₁) E s):Ë (model prog w) A (eval (.Attribute e f pos) env) Q E s:=
 Attribute_any_ h (by rw[arm_eval_Attribute,hb])
end
noncomputable def tFld(K:Þ)(ta:TE)(f:Str):TE:=λσ H Q=>ta σ H λx H1=>∃a C dx fs v,x=.ref a/\H1 a=some (.ins C dx fs)/\Cls K C/\qcx K C f/\fs.lookup f=some v/\Q v H1
noncomputable def sFld(K:Þ)(ta tv:TE)(f:Str):TS:=λD σ H=>tv σ H λy H1=>ta σ H1 λx H2=>∃a C dx fs,x=.ref a/\H2 a=some (.ins C dx fs)/\Cls K C/\qcx K C f/\fs.length<1000/\
 D.nx σ (upd H2 a (.ins C dx (aR f y fs)))
section
variable {X:Cx}{o e value:Expr}{f:Str}{pos pos' tpos:Pos}{ta tv:TE}
theorem pe_fld(he:PE X e ta)(hb:Ű e f X.env (eval e X.env)=eval e X.env):PE X (.Attribute e f pos) (tFld X.K ta f):=by
 intro pins s σ H Q I h;refine attr_of hb (thn (he pins s σ H _ I h) λu s1 ⟨x,H1,I1,rx,a,C,dx,fs,v,ex,ea,c,n,l,q⟩=>?_);subst ex;obtain rfl:u=ã a:=rx;exact qhj I1 ea c n l λu' s2 I2 ru=>⟨v,H1,I2,ru,q⟩
theorem ps_fld(ha:PE X o ta)(hv:PE X value tv)(hs:swapsWith value (some (.Attribute o f pos')) pos.line X.env=pure false):PS X (.Assign [.Attribute o f pos'] value pos) (sFld X.K ta tv f):=by
 intro pins s σ H D I h;refine plainObj_wpAny_Assign_Attribute (thn (hv pins s σ H _ I h) λu s1 ⟨y,H1,I1,ry,q⟩=>thn (ha pins s1 σ H1 _ I1 q) λov s2 ⟨x,H2,I2,rx,a,C,dx,fs,ex,ea,c,n,l,q2⟩=>?_) hs;subst ex;obtain rfl:ov=ã a:=rx;exact yhq I2 ea c n l ry λs3 I3=>⟨σ,_,I3,q2⟩
theorem methcall_of(he:PE X e te)(I:Inv X pins σ H s)
  (h:te σ H λx H1=>∃a C dx fs g,x=.ref a/\H1 a=some (.ins C dx fs)/\Cls X.K C/\Meth X.K C m g/\fs.lookup m=none/\
   ∀s1,Inv X pins σ H1 s1->Ë (model X.prog X.w) X.A (callWith pos (.ref g) [.ref a] (ľ pos (â args X.env)) (backToKw pos (ť [] X.env))) Q X.xe s1)
  (ht:eval (.Call (.Attribute e m apos) args [] pos) X.env=(do
   let ov <-eval e X.env
   standAt apos.atName
   let (f,first) <-holding [ov] (getMethod ov m pl)
   callWith pos f first (ľ pos (â args X.env)) (backToKw pos (ť [] X.env)))) :
  Ë (model X.prog X.w) X.A (eval (.Call (.Attribute e m apos) args [] pos) X.env) Q X.xe s:=by
 refine W.methodCall_KW (pl:=pl) (thn (he pins s σ H _ I h) λu s1 ⟨x,H1,I1,rx,a,C,dx,fs,g,ex,ea,c,k,l,q⟩=>?_) ht;subst ex;obtain rfl:u=ã a:=rx;exact yck I1 ea c k l (q s1 I1)
end
section
variable {X:Cx}{pins:List (Addr×Obj)}{σ:St}{H:Hp}{s:Ç}{A:Ā}{E:Æ->Ç->Prop}{Q:Æ->Ç->Prop}{c:Æ}{b:Bool}
inductive TyOf(K:Þ)(H:Hp):V->Æ->Prop where
 |non:TyOf K H .non (.type "NoneType")
 |bl (x:Bool):TyOf K H (.bl x) (.type "bool")
 |int (i:Int):TyOf K H (.int i) (.type "int")
 |str (x:Str):TyOf K H (.str x) (.type "str")
 |flt (x:UInt64):TyOf K H (.flt x) (.type "float")
 |lst {a:Addr}{xs:List V} (e:H a=some (.lst xs)):TyOf K H (.ref a) (.type "list")
 |frz {a:Addr}{o:Obj}{xs:List V} (e:H a=some (.frz o (.lst xs))):TyOf K H (.ref a) (.type "list")
 |tup {a:Addr}{xs:List V} (e:H a=some (.tup xs)):TyOf K H (.ref a) (.type "tuple")
 |dK {a:Addr}{kvs:List (Key×V)} (e:H a=some (.dK kvs)):TyOf K H (.ref a) (.type "dict")
 |dT {a:Addr}{kvs:List (List Key×V)} (e:H a=some (.dT kvs)):TyOf K H (.ref a) (.type "dict")
 |ins {a C dx:Addr}{fs:List (Str×V)} (e:H a=some (.ins C dx fs)) (cl:Cls K C) (ha:ũ K (.ref C) "__class__"=some (some (.builtin "object.__class__")))
   (hn:W.specialIn K (.builtin "object.__class__") "__get__"=some (some (.builtin "getset_descriptor.__get__"))) (htk:W.takesIn K (.builtin "object.__class__")=some true)
   (hm:W.mroIn K C (.type "object")=some true):TyOf K H (.ref a) (.ref C)
theorem qji(I:Inv X pins σ H s)(rx:RelV x u)(ty:TyOf X.K H x t)(e:W.kitOne X.K t c=some b)(h:∀tk,Q (.bool b) { s with toks:=tk }) :
  Ë (model X.prog X.w) A (call (.builtin "isinstance") [u,c]) Q E s:=by
 cases ty with
 |non=>cases (show u=ó from rx);exact Ŭ W.kitx_none I.kIn į e (λz=>nomatch z) h
 |bl y=>cases (show u=ŋ y from rx);exact Ŭ W.kitx_bool I.kIn į e (λz=>nomatch z) h
 |int i=>obtain ⟨t,q⟩:=(show ∃t,u=Ρ i t from rx);cases q;exact Ŭ W.kitx_int I.kIn į e (λz=>nomatch z) h
 |str y=>obtain ⟨t,q⟩:=(show ∃t,u=Value.str y t from rx);cases q;exact Ŭ W.kitx_str I.kIn į e (λz=>nomatch z) h
 |flt y=>obtain ⟨t,q⟩:=(show ∃t,u=Value.float y t from rx);cases q;exact Ŭ W.kitx_float I.kIn į e (λz=>nomatch z) h
 |@lst a xs ea=>
  cases (show u=ã a from rx);obtain ⟨_,_,n,_,h1⟩:=(show bh X.prog X.w H s.heap a (.lst xs) from I.hok a _ ea);exact Ŭ W.kitx_list I.kIn ⟨_,h1,rfl⟩ e (λz=>nomatch z) h
 |@frz a ob xs ea=>
  cases (show u=ã a from rx);obtain ⟨_,_,_,n,_,h1⟩:=(show bh X.prog X.w H s.heap a (.frz ob (.lst xs)) from I.hok a _ ea);exact Ŭ W.kitx_list I.kIn ⟨_,h1,rfl⟩ e (λz=>nomatch z) h
 |@tup a xs ea=>
  cases (show u=ã a from rx);obtain ⟨_,_,_,p⟩:=(show bh X.prog X.w H s.heap a (.tup xs) from I.hok a _ ea);obtain ⟨o,h1,h2,_⟩:=p;exact Ŭ W.kitx_tuple I.kIn ⟨o,h1,h2⟩ e (λz=>nomatch z) h
 |@dK a kvs ea=>
  cases (show u=ã a from rx);obtain ⟨_,_,vs,_,p⟩:=(show bh X.prog X.w H s.heap a (.dK kvs) from I.hok a _ ea);obtain ⟨o,es,ep,h1,h2,_⟩:=p;exact Ŭ W.kitx_dict I.kIn ⟨o,h1,h2.1⟩ e (λz=>nomatch z) h
 |@dT a kvs ea=>
  cases (show u=ã a from rx);obtain ⟨_,_,xs,_,o,es,ep,h1,h2,_⟩:=(show bh X.prog X.w H s.heap a (.dT kvs) from I.hok a _ ea);exact Ŭ W.kitx_dict I.kIn ⟨o,h1,h2.1⟩ e (λz=>nomatch z) h
 |@ins a C dx fs ea cl ha hn htk hm=>
  cases (show u=ã a from rx);obtain ⟨mA,O,_⟩:=qex I.hok ea;obtain ⟨od,J,_⟩:=O.look;exact Ŭ (W.kitx_own (cl.get _) cl.hd ha hn htk hm) I.kIn J e (λz=>nomatch z) h
end
structure Room(k:Nat)(A:Ā):Prop where
 hd:A.handled=none
 dp:A.depth+3*k+5<recursionLimit
 un:A.units+16*k+200<Ž
 gd:A.guards=some []
theorem Room.mono(r:Room k A)(h:j<=k):Room j A:=⟨r.hd,by have:=r.dp;omega,by have:=r.un;omega,r.gd⟩
theorem Room.deeper(r:Room (k+1) A)(env:Env):Room k (A.deeper env):=
 ⟨r.hd,by have:=r.dp;show A.depth+1+3*k+5<_;omega,by have:=r.un;show A.units+3+16*k+200<_;omega,r.gd⟩
theorem yhm{A:Ā}{C:Addr}{us:List Æ}{kw:List (Str×Æ)}:(A.under (.builtin "type.__call__" ⟨.ref C::us,kw⟩)).depth=A.depth+1:=by
 first|rfl|simp[Around.under,Code.weight,Code.isCreation,Code.isGuard,Code.isCaller,Code.frames,Code.isFrame,guardIds]
theorem qho{A:Ā}{C:Addr}{us:List Æ}{kw:List (Str×Æ)}:(A.under (.builtin "type.__call__" ⟨.ref C::us,kw⟩)).units=A.units+1:=by
 first|rfl|simp[Around.under,Code.cUnits,Code.frames,Code.isFrame]
theorem yf6{A:Ā}{C:Addr}{us:List Æ}{kw:List (Str×Æ)}:(A.under (.builtin "type.__call__" ⟨.ref C::us,kw⟩)).guards=A.guards:=by
 first|rfl|(unfold Around.under Code.guards;cases A.guards<;>simp[pushGuards,Code.isGuard,guardIds])
theorem Room.make{k:Nat}{A:Ā}(r:Room (k+1) A)(C:Addr)(us:List Æ)(kw:List (Str×Æ)):Room k (A.under (.builtin "type.__call__" ⟨.ref C::us,kw⟩)):=
 ⟨r.hd,by have:=r.dp;rw[yhm];omega,by have:=r.un;rw[qho];omega,by rw[yf6];exact r.gd⟩
theorem Room.depth(r:Room k A):A.depth<recursionLimit:=by have:=r.dp;omega
theorem Room.units(r:Room k A):A.units+64<Ž:=by have:=r.un;omega
noncomputable def tNil:TA:=λ_ H Q=>Q [] H
noncomputable def yfy(ta:TE)(tr:TA):TA:=λσ H Q=>ta σ H λx H1=>tr σ H1 λxs H2=>Q (x::xs) H2
section
variable {X:Cx}{e:Expr}{es:List Expr}{te:TE}{t:TA}{pos:Pos}
theorem ydk:PA X [] tNil:=λ_ _ _ _ H Q I h=>Calls.spliced_nil ⟨[],H,I,.nil,h⟩
theorem ybe(ha:PE X e te)(hr:PA X es t)(hs:â (e::es) X.env=(false,eval e X.env)::â es X.env:=by rfl):PA X (e::es) (yfy te t):=by
 intro pos pins s σ H Q I h;rw[hs];show Ë _ _ (spliced ((false,eval e X.env)::ľ pos (â es X.env))) _ _ s;refine Calls.spliced_cons (thn (ha pins s σ H _ I h) λu s1 ⟨x,H1,I1,r1,q1⟩=>?_);exact thn (hr pos pins s1 σ H1 _ I1 q1) λus s2 ⟨xs,H2,I2,r2,q2⟩=>⟨x::xs,H2,I2,.cons r1 r2,q2⟩
noncomputable def tTup(t:TA):TE:=λσ H Q=>t σ H λxs H1=>xs.length<=Õ/\∀p,H1 p=none->Q (.ref p) (upd H1 p (.tup xs))
noncomputable def tLst(t:TA):TE:=λσ H Q=>t σ H λxs H1=>xs.length<=Õ/\∀p,H1 p=none->Q (.ref p) (upd H1 p (.lst xs))
theorem pe_tup{x1}(h:PA X es t):PE X (.Tuple es x1 pos) (tTup t):=by
 intro pins s σ H Q I hq;refine wpAny_Tuple_spliced (thn (h pos pins s σ H _ I hq) λus s1 ⟨xs,H1,I1,r,z,q⟩=>⟨by rw[<-r.length];exact z,?_⟩);have hf:H1 s1.heap.objs.size=none:=I1.hok.fresh (Ò _);refine ⟨.ref s1.heap.objs.size,upd H1 s1.heap.objs.size (.tup xs),I1.laid (t':=s1.toks) (λb u e=>È _ e) (Ò _) ?_,rfl,q _ hf⟩;exact ⟨z,us,r,⟨_,Ô _ rfl,rfl,_,rfl⟩⟩
theorem pe_lst(h:PA X es t):PE X (.List es pos) (tLst t):=by
 intro pins s σ H Q I hq;refine wpAny_List_spliced (thn (h pos pins s σ H _ I hq) λus s1 ⟨xs,H1,I1,r,z,q⟩=>⟨by rw[<-r.length];exact z,?_⟩);have hf:H1 s1.heap.objs.size=none:=I1.hok.fresh (Ò _);refine ⟨.ref s1.heap.objs.size,upd H1 s1.heap.objs.size (.lst xs),I1.laid (t':=s1.toks) (λb u e=>È _ e) (Ò _) ?_,rfl,q _ hf⟩;exact ⟨z,us,0,r,Ô _ rfl⟩
end
noncomputable abbrev Sp:=List V->Hp->VK->XK->Prop
noncomputable abbrev CXT:=List Env->Hp->Ç->XK->Æ->Ç->Prop
structure Env0(P:Ü)(w:ï)(K:Þ)(mg:Str->Option Æ)(base:Heap)(A:Ā)(outer:List Env)(s:Ç)(H:Hp):Prop where
 frames:A.frames=some outer
 mod:Mod K mg base
 bs:∀b o,base.get? b=some o->s.heap.get? b=some o/\H b=none
 bsz:base.objs.size<=s.heap.objs.size
 funs:s.heap.FunFrames base outer
 frf:∀b∈frs outer,H b=none
 hok:HOk P w H s.heap
 bare:AllBare s.gens
noncomputable def CE(outer:List Env)(P:Ü)(w:ï)(H:Hp)(s:Ç)(Q:VK)(u:Æ)(s':Ç):Prop:=
 ∃v H',s'.os=s.os/\AllBare s'.gens/\Un (frs outer) [] H H' s.heap s'.heap/\HOk P w H' s'.heap/\RelV v u/\Q v H'
noncomputable def CR(CX:CXT)(outer:List Env)(P:Ü)(w:ï)(H:Hp)(s:Ç)(Q:VK)(E:XK)(r:Result)(s':Ç):Prop:=
 match r with
 |.ok (.ret u)=>CE outer P w H s Q u s'
 |.ok _=>False
 |.error e=>CX outer H s E e s'
structure FnOk(P:Ü)(w:ï)(K:Þ)(mg:Str->Option Æ)(base:Heap)(CX:CXT)(k:Nat)(f:Addr)(fd:ů)(ps:List Str)(sp:Sp):Prop where
 len:∀vs H Q E,sp vs H Q E->vs.length=ps.length
 run:∀(A:Ā) (outer:List Env) (s:Ç) (H:Hp) (args:Args) (us:List Æ) (vs:List V) (Q:VK) (E:XK),Room k A->Env0 P w K mg base A outer s H->BindsTo s fd args (ps.zip us)->Vals vs us->sp vs H Q E->
  ag (model P w) A (.call (.ref f) args) (CR CX outer P w H s Q E) s
theorem FnOk.mono{P:Ü}{w:ï}{K:Þ}{mg:Str->Option Æ}{base:Heap}{CX:CXT}{j k:Nat}{f:Addr}{fd:ů}{ps:List Str}{sp:Sp}(F:FnOk P w K mg base CX j f fd ps sp)(h:j<=k) :
  FnOk P w K mg base CX k f fd ps sp:=⟨F.len,λA outer s H args us vs Q E hr=>F.run A outer s H args us vs Q E (hr.mono h)⟩
theorem FnOk.imp{P:Ü}{w:ï}{K:Þ}{mg:Str->Option Æ}{base:Heap}{CX:CXT}{k:Nat}{f:Addr}{fd:ů}{ps:List Str}{sp sp':Sp}(F:FnOk P w K mg base CX k f fd ps sp)
  (h:∀vs H Q E,sp' vs H Q E->sp vs H Q E):FnOk P w K mg base CX k f fd ps sp':=
 ⟨λvs H Q E q=>F.len vs H Q E (h _ _ _ _ q),λA outer s H args us vs Q E hr he hb hv hs=>F.run A outer s H args us vs Q E hr he hb hv (h _ _ _ _ hs)⟩
theorem Env0.make{P:Ü}{w:ï}{K:Þ}{mg:Str->Option Æ}{base:Heap}{A:Ā}{outer:List Env}{s:Ç}{H:Hp}(e:Env0 P w K mg base A outer s H)(C:Addr)(us:List Æ)(kw:List (Str×Æ)) :
  Env0 P w K mg base (A.under (.builtin "type.__call__" ⟨.ref C::us,kw⟩)) outer s H:=⟨by first|exact e.frames|(simpa [Around.under,Code.envs,Code.isFrame,pushEnvs] using e.frames),e.mod,e.bs,e.bsz,e.funs,e.frf,e.hok,e.bare⟩
section
variable {X:Cx}{pins:List (Addr×Obj)}{σ:St}{H:Hp}{s s':Ç}
theorem Inv.env0(I:Inv X pins σ H s):Env0 X.prog X.w X.K X.mg X.base X.A X.stack s H:=
 ⟨I.ok.frames,I.ok.mod,I.bs,Ğ I.ok.bsz I.sz,I.stack,I.stkFree,I.hok,I.bare⟩
theorem Inv.after(I:Inv X pins σ H s)(h:CE X.stack X.prog X.w H s Q u s'):EP X pins σ Q u s':=by
 obtain ⟨v,H',os,bare,un,hok,r,q⟩:=h;obtain ⟨hh,g,d,t,os'⟩:=s';obtain rfl:os'=s.os:=os;exact ⟨v,H',I.call (h':=hh) (g':=g) (d':=d) (t':=t) (ch:=[]) un hok bare (λb z=>absurd z (by simp)),r,q⟩
end
noncomputable def tCall(sp:Sp)(dvs:List V)(E:XK)(t:TA):TE:=λσ H Q=>t σ H λvs H1=>sp (vs++dvs) H1 Q E
noncomputable def tMeth(C:Addr)(m:Str)(sp:Sp)(dvs:List V)(E:XK)(ta:TE)(t:TA):TE:=λσ H Q=>ta σ H λx H1=>∃a dx fs,x=.ref a/\H1 a=some (.ins C dx fs)/\fs.lookup m=none/\
 t σ H1 λvs H2=>sp (x::(vs++dvs)) H2 Q E
noncomputable def tMake(C:Addr)(sp:Sp)(dvs:List V)(E:XK)(t:TA):TE:=λσ H Q=>t σ H λvs H1=>∀x dx,H1 x=none->H1 dx=none->dx≠x->
 sp (.ref x::(vs++dvs)) (upd (upd H1 dx (.own x)) x (.ins C dx [])) (λv H2=>v=.non/\Q (.ref x) H2) E
noncomputable def dA(K:Þ)(fd:ů)(ps:List Str)(ds:List Æ):Prop:=
 ∀(s:Ç) (us:List Æ),K.In s.heap->(us++ds).length=ps.length->BindsTo s fd ⟨us,[]⟩ (ps.zip (us++ds))
theorem dA.all{K:Þ}{fd:ů}{ps:List Str}(h:∀us:List Æ,us.length=ps.length->bindArgs fd ⟨us,[]⟩=pure (ps.zip us)):dA K fd ps []:=λs us _ hl=>by
 rw[Ĺ]at hl ⊢;exact .of_eq (h us hl)
noncomputable def qcu(CX:CXT)(X:Cx)(E:XK):Prop:=∀(pins:List (Addr×Obj)) (σ:St) (H:Hp) (s:Ç) (e:Æ) (s':Ç),Inv X pins σ H s->CX X.stack H s E e s'->X.xe e s'
section
variable {X:Cx}{CX:CXT}{k:Nat}{f C:Addr}{fd:ů}{ps:List Str}{sp:Sp}{dvs:List V}{ds:List Æ}{E:XK}{x m:Str}{p pos apos:Pos}{e o:Expr}{es:List Expr}{ta:TE}{t:TA}
theorem yg4(F:FnOk X.prog X.w X.K X.mg X.base CX k f fd ps sp)(hr:Room k X.A)(hb:dA X.K fd ps ds)(hd:Vals dvs ds)(hx:qcu CX X E)
  (I:Inv X pins σ H s) (r:Vals vs us) (h:sp (vs++dvs) H Q E):Ë (model X.prog X.w) X.A (call (.ref f) us) (EP X pins σ Q) X.xe s:=by
 have r2:Vals (vs++dvs) (us++ds):=r.append hd;have hl:(us++ds).length=ps.length:=by rw[<-r2.length];exact F.len _ _ _ _ h
 refine wpAny_call (codeAny_mono (F.run X.A X.stack s H ⟨us,[]⟩ (us++ds) (vs++dvs) Q E hr I.env0 (hb s us I.kIn hl) r2 h) λr s' hq=>?_);cases r with
 |error e=>exact hx pins σ H s e s' I hq
 |ok fl=>
  cases fl with
  |ret u=>exact I.after hq
  |next=>exact ĭ hq
  |brk=>exact ĭ hq
  |cont=>exact ĭ hq
theorem pe_call(F:FnOk X.prog X.w X.K X.mg X.base CX k f fd ps sp)(hr:Room k X.A)(hg:Gl X x)(hm:X.mg x=some (.ref f))(hk:Ξ X.K (.ref f)=true)(hb:dA X.K fd ps ds)(hd:Vals dvs ds)(hx:qcu CX X E)
  (ha:PA X (e::es) t) (hdb:(x == ("__debug__" : Str))=false:=by decide) (he:â (e::es) X.env=(false,eval e X.env)::â es X.env:=by rfl) (hpl:(ľ pos (â es X.env)).any (·.1)=false:=by rfl) :
  PE X (.Call (.Name x p) (e::es) [] pos) (tCall sp dvs E t):=by
 intro pins s σ H Q I h;refine Œ (yef I hg hm ?_ hdb);refine W.callWith_K (h₀:=X.base) I.ok.mod.kin hk (thn (ha pos pins s σ H _ I h) λus s1 ⟨vs,H1,I1,r,q⟩=>⟨I1.kIn,?_⟩) he hpl;exact yg4 F hr hb hd hx I1 r q
theorem pe_call0(F:FnOk X.prog X.w X.K X.mg X.base CX k f fd ps sp)(hr:Room k X.A)(hg:Gl X x)(hm:X.mg x=some (.ref f))(hk:Ξ X.K (.ref f)=true)(hb:dA X.K fd ps ds)(hd:Vals dvs ds)(hx:qcu CX X E)
  (hdb:(x == ("__debug__" : Str))=false:=by decide):PE X (.Call (.Name x p) [] [] pos) (tCall sp dvs E tNil):=by
 intro pins s σ H Q I h;refine Œ (yef I hg hm ?_ hdb);exact W.callWith_K0 I.kIn hk (yg4 (us:=[]) F hr hb hd hx I .nil h)
theorem pe_meth(he:PE X o ta)(c:Cls X.K C)(hm:Meth X.K C m f)(F:FnOk X.prog X.w X.K X.mg X.base CX k f fd ps sp)(hr:Room k X.A)(hb:dA X.K fd ps ds)(hd:Vals dvs ds)(hx:qcu CX X E)(ha:PA X (e::es) t)
  (hst:â (e::es) X.env=(false,eval e X.env)::â es X.env:=by rfl) (hpl:(ľ pos (â es X.env)).any (·.1)=false:=by rfl)
  (ht:eval (.Call (.Attribute o m apos) (e::es) [] pos) X.env=(do
   let ov <-eval o X.env
   standAt apos.atName
   let (f,first) <-holding [ov] (getMethod ov m pl)
   callWith pos f first (ľ pos (â (e::es) X.env)) (backToKw pos (ť [] X.env))):=by rfl) :
  PE X (.Call (.Attribute o m apos) (e::es) [] pos) (tMeth C m sp dvs E ta t):=by
 intro pins s σ H Q I h;refine W.methodCall_KW (pl:=pl) (thn (he pins s σ H _ I h) λu s1 ⟨x,H1,I1,rx,a,dx,fs,ex,ea,l,q⟩=>?_) ht;subst ex;obtain rfl:u=ã a:=rx;refine yck I1 ea c hm l ?_;refine W.callWith_K (first:=[.ref a]) (h₀:=X.base) I.ok.mod.kin hm.kp (thn (ha pos pins s1 σ H1 _ I1 q) λus s2 ⟨vs,H2,I2,r,q2⟩=>⟨I2.kIn,?_⟩) hst hpl;exact yg4 (us:=.ref a::us) (vs:=.ref a::vs) F hr hb hd hx I2 (.cons rfl r) q2
theorem pe_meth0(he:PE X o ta)(c:Cls X.K C)(hm:Meth X.K C m f)(F:FnOk X.prog X.w X.K X.mg X.base CX k f fd ps sp)(hr:Room k X.A)(hb:dA X.K fd ps ds)(hd:Vals dvs ds)(hx:qcu CX X E)
  (ht:eval (.Call (.Attribute o m apos) [] [] pos) X.env=(do
   let ov <-eval o X.env
   standAt apos.atName
   let (f,first) <-holding [ov] (getMethod ov m pl)
   callWith pos f first (ľ pos (â [] X.env)) (backToKw pos (ť [] X.env))):=by rfl) :
  PE X (.Call (.Attribute o m apos) [] [] pos) (tMeth C m sp dvs E ta tNil):=by
 intro pins s σ H Q I h;refine W.methodCall_KW (pl:=pl) (thn (he pins s σ H _ I h) λu s1 ⟨x,H1,I1,rx,a,dx,fs,ex,ea,l,q⟩=>?_) ht;subst ex;obtain rfl:u=ã a:=rx;refine yck I1 ea c hm l ?_;exact W.callWith_K0 (first:=[.ref a]) I1.kIn hm.kp (yg4 (us:=[.ref a]) (vs:=[.ref a]) F hr hb hd hx I1 (.cons rfl .nil) q)
structure Mk(K:Þ)(C f:Addr):Prop where
 makes:W.makesIn K C=true
 init:ũ K (.ref C) "__init__"=some (some (.ref f))
 fn:W.isFn K (.ref f)=true
 kp:Ξ K (.ref C)=true
theorem run_make(M:Mk X.K C f)(F:FnOk X.prog X.w X.K X.mg X.base CX k f fd ps sp)(hr:Room (k+1) X.A)(hb:dA X.K fd ps ds)(hd:Vals dvs ds)
  (hx:qcu CX X E) (I:Inv X pins σ H s) (r:Vals vs us)
  (h:∀x dx,H x=none->H dx=none->dx≠x->sp (.ref x::(vs++dvs)) (upd (upd H dx (.own x)) x (.ins C dx [])) (λv H2=>v=.non/\Q (.ref x) H2) E) :
  Ë (model X.prog X.w) X.A (call (.ref C) us) (EP X pins σ Q) X.xe s:=by
 have hq:=h (s.heap.objs.size+1) s.heap.objs.size (I.hok.fresh (le_succ _)) (I.hok.fresh (Ò _)) (ĉ (Nat.lt_succ_self _));have I2:=Inv.made (C:=C) I;have r2:Vals (V.ref (s.heap.objs.size+1)::(vs++dvs)) (ã (s.heap.objs.size+1)::(us++ds)):=.cons rfl (r.append hd);have hl:(ã (s.heap.objs.size+1)::us++ds).length=ps.length:=by
  have e:=r2.length;rw[F.len _ _ _ _ hq]at e;exact e.symm
 refine wpAny_call (make_map (f:=f) I.kIn M.makes M.init (beq_iff_eq.mp M.fn) (codeAny_mono (F.run _ X.stack _ _ ⟨ã (s.heap.objs.size+1)::us,[]⟩ (ã (s.heap.objs.size+1)::(us++ds)) _ _ E (hr.make C us [])
  (I2.env0.make C us []) (hb _ (ã (s.heap.objs.size+1)::us) I2.kIn hl) r2 hq) λr s' hq'=>?_))
 cases r with
 |error e=>exact hx pins σ _ _ e s' I2 hq'
 |ok fl=>
  cases fl with
  |ret u=>
   obtain ⟨v,H',I3,rv,ev,q3⟩:=I2.after hq';subst ev;exact ⟨rv,⟨V.ref (s.heap.objs.size+1),H',I3,rfl,q3⟩⟩
  |next=>exact ĭ hq'
  |brk=>exact ĭ hq'
  |cont=>exact ĭ hq'
theorem pe_make(M:Mk X.K C f)(F:FnOk X.prog X.w X.K X.mg X.base CX k f fd ps sp)(hr:Room (k+1) X.A)(hg:Gl X x)(hm:X.mg x=some (.ref C))(hb:dA X.K fd ps ds)(hd:Vals dvs ds)(hx:qcu CX X E)
  (ha:PA X (e::es) t) (hdb:(x == ("__debug__" : Str))=false:=by decide) (he:â (e::es) X.env=(false,eval e X.env)::â es X.env:=by rfl) (hpl:(ľ pos (â es X.env)).any (·.1)=false:=by rfl) :
  PE X (.Call (.Name x p) (e::es) [] pos) (tMake C sp dvs E t):=by
 intro pins s σ H Q I h;refine Œ (yef I hg hm ?_ hdb);refine W.callWith_K (h₀:=X.base) I.ok.mod.kin M.kp (thn (ha pos pins s σ H _ I h) λus s1 ⟨vs,H1,I1,r,q⟩=>⟨I1.kIn,?_⟩) he hpl;exact run_make M F hr hb hd hx I1 r q
end
structure FnScope(N P:List Str)(sc:Scope):Prop where
 kind:sc.kind=.function
 co:sc.isCoroutine=false
 gen:sc.isGenerator=false
 nd:N.Nodup
 pre:N.take P.length=P
 par:∀x∈P,sc.names.lookup x=some .local\/sc.names.lookup x=some .cell
 nofree:∀y∈sc.names,y.2≠.free
theorem fsc{N P:List Str}{sc:Scope}(a:sc.kind=.function:=by rfl)(b:sc.isCoroutine=false:=by rfl)(c:sc.isGenerator=false:=by rfl)(d:N.Nodup:=by decide +kernel)(e:N.take P.length=P:=by rfl)(f:∀x∈P,sc.names.lookup x=some .local\/sc.names.lookup x=some .cell:=by decide +kernel)(g:∀y∈sc.names,y.2≠.free:=by decide +kernel):FnScope N P sc:=⟨a,b,c,d,e,f,g⟩
theorem qfa{kindOf:Str->Option Η}{x:Str}:∀{binds:List (Str×Æ)}{m:Str->Option Æ},(∀v,(x,v)∉binds)->bindL kindOf binds m x=m x
 |[],_,_=>rfl
 | (n,v)::r,m,h=>by
  unfold bindL;rw[qfa λw hw=>h w (Ê _ hw)];split
  ·have:x≠n:=by rintro rfl;exact h v Ì
   simp[this]
  ·rfl
theorem qfl{kindOf:Str->Option Η}{x:Str}:∀{binds:List (Str×Æ)}{m:Str->Option Æ},(∀v,(x,v)∉binds)->bindC kindOf binds m x=m x
 |[],_,_=>rfl
 | (n,v)::r,m,h=>by
  unfold bindC;rw[qfl λw hw=>h w (Ê _ hw)];split
  ·rfl
  ·have:x≠n:=by rintro rfl;exact h v Ì
   simp[this]
theorem qfd{kindOf:Str->Option Η}{x:Str}{v:Æ}:∀{P:List Str}{vs:List Æ}{i:Nat}{m:Str->Option Æ},P.Nodup->P[i]?=some x->vs[i]?=some v->kindOf x=some .local->
  bindL kindOf (P.zip vs) m x=some v
 |[],_,_,_,_,h,_,_=>by simp at h
 |_::_,[],_,_,_,_,h,_=>by simp at h
 |p::P,w::vs,0,m,nd,h1,h2,hk=>by
  simp at h1 h2;subst h1;subst h2;show bindL kindOf ((p,w)::P.zip vs) m p=_;unfold bindL;rw[qfa λv hv=>(bL.mp nd).1 (List.of_mem_zip hv).1,if_pos hk];simp
 |p::P,w::vs,i+1,m,nd,h1,h2,hk=>by
  show bindL kindOf ((p,w)::P.zip vs) m x=_;unfold bindL;exact qfd (i:=i) (bL.mp nd).2 (by simpa using h1) (by simpa using h2) hk
theorem yfa{kindOf:Str->Option Η}{x:Str}{v:Æ}:∀{P:List Str}{vs:List Æ}{i:Nat}{m:Str->Option Æ},P.Nodup->P[i]?=some x->vs[i]?=some v->kindOf x≠some .local->
  bindC kindOf (P.zip vs) m x=some v
 |[],_,_,_,_,h,_,_=>by simp at h
 |_::_,[],_,_,_,_,h,_=>by simp at h
 |p::P,w::vs,0,m,nd,h1,h2,hk=>by
  simp at h1 h2;subst h1;subst h2;show bindC kindOf ((p,w)::P.zip vs) m p=_;unfold bindC;rw[qfl λv hv=>(bL.mp nd).1 (List.of_mem_zip hv).1,if_neg hk];simp
 |p::P,w::vs,i+1,m,nd,h1,h2,hk=>by
  show bindC kindOf ((p,w)::P.zip vs) m x=_;unfold bindC;exact yfa (i:=i) (bL.mp nd).2 (by simpa using h1) (by simpa using h2) hk
noncomputable def eC(N:List Str)(vs:List V):St:=vs.map some++Ă (N.length-vs.length) none
noncomputable def cxOf(CX:CXT)(P:Ü)(w:ï)(K:Þ)(mg:Str->Option Æ)(base:Heap)(N:List Str)(qual:Str)(scope:Scope)(f:Addr)(cd:Æ)(A:Ā)(outer:List Env)(s:Ç)(H:Hp)(E:XK):Cx where
 prog:=P
 w:=w
 K:=K
 mg:=mg
 base:=base
 A:=A.deeper (envOfC qual scope s.heap.objs.size f cd)
 N:=N
 s₀:=s
 H₀:=H
 env:=envOfC qual scope s.heap.objs.size f cd
 outer:=outer
 stack:=envOfC qual scope s.heap.objs.size f cd::outer
 ex:=[]
 calm:=true
 fn:=λ_=>true
 pn:=[]
 xe:=λe s'=>Ë (model P w) (A.deeper (envOfC qual scope s.heap.objs.size f cd)) (leaving (envOfC qual scope s.heap.objs.size f cd) e) (λ_ s''=>CX outer H s E e s'') (λe' s''=>CX outer H s E e' s'') s'
theorem yg8{sc:Scope}{n:Nat}{x:Str}(h:sc.names.lookup x=some .cell):∃c,(cellsFrom n sc.names []).lookup x=some c:=by
 have q:=W.cellsFrom_some sc.names n [] (.inl h);exact Ż.mp q
theorem qkl{CX:CXT}{P:Ü}{w:ï}{K:Þ}{mg:Str->Option Æ}{base:Heap}{N ps:List Str}{qual:Str}{scope:Scope}{f:Addr}{cd:Æ}{A:Ā}{outer:List Env}{s s1:Ç}{H:Hp}{E:XK}{us:List Æ}{vs:List V}
  (S:FnScope N ps scope) (hd:A.handled=none) (e0:Env0 P w K mg base A outer s H) (hl:vs.length=ps.length) (r:Vals vs us)
  (x:InCallC s s.heap.objs.size (bindL (envOfC qual scope s.heap.objs.size f cd).kindOf (ps.zip us) λ_=>none) (cellsFrom (s.heap.objs.size+1) scope.names []) (bindC (envOfC qual scope s.heap.objs.size f cd).kindOf (ps.zip us) λ_=>none) s1) :
  Inv (cxOf CX P w K mg base N qual scope f cd A outer s H E) [] (eC N vs) H s1:=by
 have hpl:ps.length<=N.length:=by have:=congrArg List.length S.pre;rw[aN]at this;omega
 obtain ⟨h1,tk,rfl,hk⟩:=x.done;have noA:∀b:Addr,b∉(cxOf CX P w K mg base N qual scope f cd A outer s H E).ex:=λb z=>absurd (show b∈([]:List Addr) from z) (by simp);refine ⟨⟨e0.mod,S.kind,rfl,rfl,Ò _,λy z c h1 h2=>?_,λy hy=>?_,λy c _ h=>?_,λ_=>hd,Around.frames_deeper e0.frames,.inr ⟨rfl,rfl⟩,λb z=>absurd z (noA b),e0.bs,e0.bsz,λb _ _=>noA b,λb z=>absurd z (noA b),e0.funs,e0.frf⟩,
  rfl,e0.bare,Un.kept hk,⟨_,x.toInCall.ns,λi y v h1 h2 h3=>?_⟩,λy c h=>⟨_,x.cell y c h⟩,e0.hok.fresh (Ò _),λy c h=>?_,λp hp=>absurd (show p∈([]:List (Addr×Obj)) from hp) (by simp),e0.hok.kept hk,?_⟩
 ·exact name_of_addr x.apart (ĝ h1) (ĝ h2)
 ·have hy:scope.names.lookup y=some .cell\/scope.names.lookup y=some .free:=hy;rcases hy with hy|hy
  ·exact yg8 hy
  ·exact absurd rfl (S.nofree _ (ĝ hy))
 ·exact γ (x.above y c (ĝ h))
 ·have hi:i<vs.length:=by
   unfold eC at h2;by_cases hi:i<vs.length
   ·exact hi
   ·rw[ö (by simpa using hi)]at h2;rw[List.getElem?_replicate]at h2;split at h2<;>cases h2
  have ha:vs[i]?=some v:=by
   unfold eC at h2;rw[ë (by simpa using hi),Ĉ]at h2;cases e:vs[i]? with
   |none=>rw[e]at h2;cases h2
   |some a=>rw[e]at h2;cases h2;rfl
  obtain ⟨u,hu,rv⟩:=r.get ha;have hp:ps[i]?=some y:=by
   rw[<-S.pre,List.getElem?_take_of_lt (by omega)];exact h1
  have ndP:ps.Nodup:=by rw[<-S.pre];exact S.nd.sublist (List.take_sublist _ _)
  refine ⟨u,rv,?_⟩;rcases S.par y (ć hp) with k|k
  ·exact .inl ⟨k,qfd ndP hp hu k⟩
  ·obtain ⟨c,e⟩:=yg8 (n:=s.heap.objs.size+1) k;refine .inr ⟨.inl k,c,e,?_⟩;have q:=x.cell y c e;rw[yfa ndP hp hu (by show scope.names.lookup y≠_;rw[k];decide)]at q;exact q
 ·exact e0.hok.fresh (γ (x.above y c (ĝ h)))
 ·unfold eC;show _=N.length;rw[Ó,Ð,List.length_replicate];omega
theorem fn_of{CX:CXT}{P:Ü}{w:ï}{K:Þ}{mg:Str->Option Æ}{base:Heap}{k:Nat}{f:Addr}{name qual:Str}{params:Arguments}{body:List Stmt}{scope:Scope}{dV kV doc pm cdv ct oc:Æ}{an od:Option Addr}
  {osl:Array (Option Æ)}{N ps:List Str}{sp:Sp} (lk:K.lookup f=some ⟨oc,od,.func (W.fnOf name qual params body scope dV kV doc pm an cdv ct),osl⟩) (hcd:W.codeIn K cdv qual=true) (S:FnScope N ps scope)
  (len:∀vs H Q E,sp vs H Q E->vs.length=ps.length)
  (hbody:∀(A:Ā) (outer:List Env) (s:Ç) (H:Hp) (vs:List V) (Q:VK) (E:XK),Room k (A.deeper (envOfC qual scope s.heap.objs.size f cdv))->sp vs H Q E->
   ∃t,PSs (cxOf CX P w K mg base N qual scope f cdv A outer s H E) body t/\t { nx:=λ_ H'=>Q .non H',rt:=Q } (eC N vs) H) :
  FnOk P w K mg base CX (k+1) f (W.fnOf name qual params body scope dV kV doc pm an cdv ct) ps sp:=by
 refine ⟨len,λA outer s H args us vs Q E hr e0 hb r hsp=>?_⟩;have hl:=len _ _ _ _ hsp;have KX:K.In s.heap:=e0.mod.kin.keeps λb o e=>(e0.bs b o e).1;have lim:s.heap.NoLimit:=e0.mod.nolimit.keeps λb o e=>(e0.bs b o e).1;have hkind:∀y∈ps.zip us,scope.names.lookup y.1=some .local\/(scope.names.lookup y.1=some .cell/\((cellsFrom (s.heap.objs.size+1) scope.names []).lookup y.1).isSome=true):=λ⟨n,v⟩ hy=>by
  rcases S.par n (List.of_mem_zip hy).1 with q|q
  ·exact .inl q
  ·exact .inr ⟨q,W.cellsFrom_some _ _ _ (.inl q)⟩
 refine codeAny_call_function hr.depth (KX _ _ lk) rfl S.co S.gen rfl (W.codeRec_of KX hcd) (hb _ _ _ _ ?_);refine wpAny_newFunctionEnv_cells S.kind hkind λenv he s1 x=>?_;subst he;refine ⟨lim.keeps x.toInCall.keep,codeAny_func ?_⟩;obtain ⟨t,ht,hq⟩:=hbody A outer s H vs Q E (hr.deeper _) hsp;have I:Inv (cxOf CX P w K mg base N qual scope f cdv A outer s H E) [] (eC N vs) H s1:=qkl S hr.hd e0 hl r x;refine Ň (ht [] s1 (eC N vs) H _ I hq) (λfl s' hs=>?_) λe s' hs=>hs;have fin:∀{σ':St}{H':Hp}{v:V}{u:Æ},Inv (cxOf CX P w K mg base N qual scope f cdv A outer s H E) [] σ' H' s'->RelV v u->Q v H'->CE outer P w H s Q u s':=
  λ{σ' H' v u} J rv q=>⟨v,H',J.os,J.bare,J.base,J.hok,rv,q⟩
 cases fl with
 |ret u=>
  obtain ⟨v,σ',H',J,rv,q⟩:=hs;exact fin J rv q
 |next=>
  obtain ⟨σ',H',J,q⟩:=hs;exact fin (v:=V.non) (u:=ó) J rfl q
 |brk=>
  obtain ⟨_,_,_,q⟩:=hs;exact ĭ q
 |cont=>
  obtain ⟨_,_,_,q⟩:=hs;exact ĭ q
section
variable {X:Cx}{x:Str}{p pos:Pos}{e:Expr}{es:List Expr}{t:TA}{id T:String}{r:List V->Hp->VK->Prop}
noncomputable def tCB(r:List V->Hp->VK->Prop)(t:TA):TE:=λσ H Q=>t σ H λvs H1=>r vs H1 Q
theorem qep(hc:bH X (.builtin id) r)(hg:Gl X x)(hm:X.mg x=none)(hv:Ī x=some (.builtin id))(ha:PA X (e::es) t)(hn:x≠"__name__":=by decide)(hdb:(x == ("__debug__" : Str))=false:=by decide)
  (he:â (e::es) X.env=(false,eval e X.env)::â es X.env:=by rfl) (hpl:(ľ pos (â es X.env)).any (·.1)=false:=by rfl):PE X (.Call (.Name x p) (e::es) [] pos) (tCB r t):=by
 intro pins s σ H Q I h;refine Œ (fq I hg hm hv ?_ hn hdb);exact PyProof.Rows.callWith_builtin1 (thn (ha pos pins s σ H _ I h) λus s1 ⟨vs,H1,I1,r1,q1⟩=>hc pins s1 σ H1 vs us Q I1 r1 q1) he hpl
theorem ye4(hc:bH X (.type T) r)(hg:Gl X x)(hm:X.mg x=none)(hv:Ī x=some (.type T))(ha:PA X (e::es) t)(hn:x≠"__name__":=by decide)(hdb:(x == ("__debug__" : Str))=false:=by decide)
  (he:â (e::es) X.env=(false,eval e X.env)::â es X.env:=by rfl) (hpl:(ľ pos (â es X.env)).any (·.1)=false:=by rfl):PE X (.Call (.Name x p) (e::es) [] pos) (tCB r t):=by
 intro pins s σ H Q I h;refine Œ (fq I hg hm hv ?_ hn hdb);exact ċ (thn (ha pos pins s σ H _ I h) λus s1 ⟨vs,H1,I1,r1,q1⟩=>hc pins s1 σ H1 vs us Q I1 r1 q1) he hpl
end
end L2
namespace HT
open PySem PyProof.Rows
section
variable {prog:Ü}{w:ï}{A:Ā}{E:Æ->Ç->Prop}{s:Ç}
theorem cat_tup(ht:IsTup s.heap t vs.toArray)(hb:IsTup s.heap b ws.toArray)(hv:vs≠[])
  (h1:ws=[]->Q (.ref t) s) (h2:ws≠[]->Q (.ref s.heap.objs.size) { s with heap:=s.heap.push { cls:=.type "tuple",data:=.seq (vs++ws).toArray } })
  (hsz:vs.length+ws.length<=Õ):Ë (model prog w) A (Ń .Add (.ref t) (.ref b)) Q E s:=by
 obtain ⟨⟨cls,dd,data,sl⟩,ho,hc,n,hd⟩:=id ht;obtain ⟨⟨cls2,dd2,data2,sl2⟩,ho2,hc2,n2,hd2⟩:=id hb;simp only at hc hd hc2 hd2;subst hc hd hc2 hd2;have e:vs.toArray++ws.toArray=(vs++ws).toArray:=by simp
 by_cases hw:ws=[]
 ·exact concat_meets ⟨_,ho,rfl⟩ ⟨_,ho2,rfl⟩ noFill_tuple_add seq_tuple_add PySem.F.slot_tuple_add ba (aV _ _)
   (tuple_addW1 t b vs.toArray ws.toArray n n2 dd dd2 sl sl2 (by simpa using hv) (by simp[hw])) ⟨ho,ho2,h1 hw⟩
 ·refine concat_meets ⟨_,ho,rfl⟩ ⟨_,ho2,rfl⟩ noFill_tuple_add seq_tuple_add PySem.F.slot_tuple_add ba (aV _ _)
   (tuple_addW2 t b vs.toArray ws.toArray n n2 dd dd2 sl sl2 (by simpa using hv) (by simpa using hw) (by rw[Ú,Ú];exact hsz)) ⟨ho,ho2,?_⟩
  rw[e];exact h2 hw
noncomputable def sIx(n d:Nat):Option Int->Nat
 |none=>d
 |some v=>if v<0 then (v+(n:Int)).toNat else min v.toNat n
theorem sIx_none(n d:Nat):sIx n d none=d:=rfl
theorem sIx_nat(n d k:Nat):sIx n d (some (k:Int))=min k n:=by
 show (if (k:Int)<0 then ((k:Int)+(n:Int)).toNat else min (k:Int).toNat n)=min k n;rw[if_neg (by omega),aJ]
theorem sIx_le(n d:Nat)(hd:d<=n)(o:Option Int):sIx n d o<=n:=by
 cases o with
 |none=>exact hd
 |some v=>
  show (if v<0 then (v+(n:Int)).toNat else min v.toNat n)<=n;by_cases hv:v<0
  ·rw[if_pos hv];omega
  ·rw[if_neg hv];exact min_le_right _ _
theorem yj6(v:Int)(n d:Nat):(if v<0 then max (v+(n:Int)) 0 else min v (n:Int))=((sIx n d (some v):Nat):Int):=by
 show (if v<0 then max (v+(n:Int)) 0 else min v (n:Int))=(((if v<0 then (v+(n:Int)).toNat else min v.toNat n):Nat):Int);by_cases hv:v<0
 ·simp only[if_pos hv];omega
 ·simp only[if_neg hv];omega
theorem qhu(lo hi:Option Int)(n:Nat):ah lo hi 1 (n:Int)=(((sIx n 0 lo:Nat):Int),((sIx n n hi:Nat):Int)):=by
 have h1:¬ ((1:Int)<0):=by omega
 unfold ah;simp only[h1,if_false];refine Prod.ext ?_ ?_
 ·cases lo with
  |none=>rfl
  |some v=>exact yj6 v n 0
 ·cases hi with
  |none=>rfl
  |some v=>exact yj6 v n n
theorem yh6(i j:Nat):š (i:Int) (j:Int) 1=j-i:=by
 unfold š;have h1:(1:Int)>0:=by omega
 simp only[h1,if_true,Int.ediv_one];split<;>omega
theorem yd0(p:IsPart v o)(h:Q o s):Ë (model prog w) A (Builtin.Slice.slicePartIndex v) Q E s:=by
 cases p with
 |none=>exact slicePart_none h
 |int i t=>exact slicePart_int h
theorem qc1{sl:Addr}{vl vu:Æ}{lo hi:Option Int}{n:Nat}{Q:Int×Int×Nat->Ç->Prop}(hs:s.heap.IsSliceOf sl vl vu .none)(pl:IsPart vl lo)(pu:IsPart vu hi)
  (h:Q (((sIx n 0 lo:Nat):Int),1,sIx n n hi-sIx n 0 lo) s):Ë (model prog w) A (Builtin.Slice.sliceApplied (.ref sl) (pure (n:Int))) Q E s:=by
 obtain ⟨os,hos,hcs,hds⟩:=id hs;unfold Builtin.Slice.sliceApplied Builtin.Slice.sliceFields;refine À (À (ý hos hds (x:=vl) rfl (À (ý hos hds (x:=vu) rfl (À (ý hos hds (x:=.none) rfl (Ã ?_)))))));refine À (slicePart_none ?_);show Ë _ _ (if ((1:Int) == 0)=true then _ else _) _ _ s;rw[if_neg (by decide)];refine À (yd0 pl (À (yd0 pu (À (Ã ?_)))));show Ë _ _ (match ah lo hi 1 (n:Int) with|(lo,hi)=>pure (lo,(1:Int),š lo hi 1)) _ _ s;rw[qhu lo hi n];show Ë _ _ (pure (((sIx n 0 lo:Nat):Int),(1:Int),š ((sIx n 0 lo:Nat):Int) ((sIx n n hi:Nat):Int) 1)) _ _ s;rw[yh6];exact Ã h
theorem pick_gen(xs:Array Æ)(i k:Nat):((õ k).filterMap λ(m:Nat)=>xs[((i:Int)+(m:Int)*1).toNat]?).toArray=((xs.toList.drop i).take k).toArray:=by
 have e:(λ(m:Nat)=>xs[((i:Int)+(m:Int)*1).toNat]?)=λm=>xs[i+m]?:=by
  funext m;have:((i:Int)+(m:Int)*1).toNat=i+m:=by omega
  rw[this]
 rw[e];have:=pick_run xs i k;rw[List.filterMap_map]at this;have e2:((λx=>xs[x]?) ∘ λx=>i+x)=λm=>xs[i+m]?:=rfl;rw[e2]at this;rw[this]
theorem getItem_tuple_cut{t sl:Addr}{items:Array Æ}{vl vu:Æ}{lo hi:Option Int}{Q:Æ->Ç->Prop}(ht:IsTup s.heap t items)(hs:s.heap.IsSliceOf sl vl vu .none)(pl:IsPart vl lo)(pu:IsPart vu hi)
  (hw:¬ (sIx items.size 0 lo=0/\sIx items.size items.size hi=items.size))
  (h:Q (.ref s.heap.objs.size) { s with heap:=s.heap.push { cls:=.type "tuple",data:=.seq ((items.toList.drop (sIx items.size 0 lo)).take (sIx items.size items.size hi-sIx items.size 0 lo)).toArray } })
  (hsz:items.size<=Õ):Ë (model prog w) A (getItem (.ref t) (.ref sl)) Q E s:=by
 have htake:sizeOk (.seq ((items.toList.drop (sIx items.size 0 lo)).take (sIx items.size items.size hi-sIx items.size 0 lo)).toArray):=by
  show ((items.toList.drop (sIx items.size 0 lo)).take (sIx items.size items.size hi-sIx items.size 0 lo)).toArray.size<=Õ;rw[Ú,aN,List.length_drop,ä];omega
 have hj:sIx items.size items.size hi<=items.size:=sIx_le _ _ (Ò _) hi;obtain ⟨os,hos,hcs,hds⟩:=id hs;have hTs:s.TypeIs (.ref sl) "slice":=⟨os,hos,hcs⟩;unfold getItem
 try with_reducible refine î ?_
 first|refine À (Ã ?_)|skip
 refine À (wpAny_sequenceKey ht.typeIs (by decide) ?_);refine À (è (name:=Ċ "__getitem__") ht.typeIs PyProof.Rows.slot_tuple_getitem
  (å PyProof.Rows.slot_tuple_getitem ht.typeIs entry_tuple_getitem ?_ (args_tuple_getitem _ _)))
 show Ë _ _ (Builtin.Tuple.tupleItemsOf (.ref t) >>= _) _ _ s;refine À (tupleItemsOf_ ht ?_);refine À (θ hTs ?_);rw[if_pos (by decide)];refine À (qc1 hs pl pu ?_);have hno:¬ ((((sIx items.size 0 lo:Nat):Int) == 0&&(1:Int) == 1&&(sIx items.size items.size hi-sIx items.size 0 lo) == items.size)=true):=by
  intro q;rw[Å,Å]at q;have q1:((sIx items.size 0 lo:Nat):Int)=0:=Ď q.1.1;have q2:sIx items.size items.size hi-sIx items.size 0 lo=items.size:=Ď q.2;exact hw ⟨by omega,by omega⟩
 show Ë _ _ (if (((sIx items.size 0 lo:Nat):Int) == 0&&(1:Int) == 1&&(sIx items.size items.size hi-sIx items.size 0 lo) == items.size)=true then _ else _) _ _ s;rw[if_neg hno,pick_gen]
 first
  |exact À (m:=ū _) (Ą (Ã ⟨_,rfl,Ã h⟩) htake)
  |exact À (m:=ū _) (Ą (À (Ã (Ã ⟨_,rfl,Ã h⟩))) htake)
  |exact À (À (m:=ū _) (Ą (Ã (Ã ⟨_,rfl,Ã h⟩)) htake))
  |exact À (À (m:=ū _) (Ą (Ã ⟨_,rfl,Ã h⟩) htake))
end
end HT
namespace L2
open PySem PySem.Spec PyProof.Rows
noncomputable abbrev TO:=St->Hp->(Option Int->Hp->Prop)->Prop
noncomputable def PO(X:Cx)(e:Option Expr)(t:TO):Prop:=
 ∀(pins:List (Addr×Obj)) (s:Ç) (σ:St) (H:Hp) (Q:Option Int->Hp->Prop),Inv X pins σ H s->t σ H Q->
  Ë (model X.prog X.w) X.A (evalPart e X.env) (λu s'=>∃o H',Inv X pins σ H' s'/\IsPart u o/\Q o H') X.xe s
noncomputable def tNoPart:TO:=λ_ H Q=>Q none H
noncomputable def tPart(t:TE):TO:=λσ H Q=>t σ H λx H1=>∃i,x=.int i/\Q (some i) H1
theorem ybx:∀{us:List Æ},Vals (ns.map V.int) us->Ļ us ns:=by
 induction ns with
 |nil=>intro us r;rw[map_nil]at r;cases r;exact .nil
 |cons n ns ih=>
  intro us r;rw[þ]at r;cases r with
  |cons r1 r2=>
   obtain ⟨t,e⟩:=r1;subst e;exact .cons n t (ih r2)
section
variable {X:Cx}{e:Expr}{te:TE}{lo hi:Option Expr}{tl th:TO}{pos p2:Pos}
theorem po_none:PO X none tNoPart:=by
 intro pins s σ H Q I h;rw[evalPart_none];exact Ã ⟨none,H,I,.none,h⟩
theorem po_some(h:PE X e te):PO X (some e) (tPart te):=by
 intro pins s σ H Q I hw;rw[evalPart_some];refine thn (h pins s σ H _ I hw) λu s1 ⟨x,H1,I1,r1,q1⟩=>?_;obtain ⟨i,rfl,q⟩:=q1;obtain ⟨t,rfl⟩:=r1;exact ⟨some i,H1,I1,.int i t,q⟩
noncomputable def SlR(X:Cx)(r:V->Option Int->Option Int->Hp->VK->Prop):Prop:=
 ∀(pins:List (Addr×Obj)) (s:Ç) (σ:St) (H:Hp) (x:V) (v vl vu:Æ) (lo hi:Option Int) (sl:Addr) (Q:VK),Inv X pins σ H s->RelV x v->s.heap.IsSliceOf sl vl vu .none->IsPart vl lo->IsPart vu hi->r x lo hi H Q->
  ∃T id,typeLookup (.type T) "__getitem__"=pure (some (.builtin id))/\s.TypeIs v T/\Ë (model X.prog X.w) X.A (getItem v (.ref sl)) (EP X pins σ Q) X.xe s
theorem SlR.or(h:SlR X r)(h':SlR X r'):SlR X (λx lo hi H Q=>r x lo hi H Q\/r' x lo hi H Q):=by
 intro pins s σ H x v vl vu lo hi sl Q I rx hs pl pu q;rcases q with q|q
 ·exact h pins s σ H x v vl vu lo hi sl Q I rx hs pl pu q
 ·exact h' pins s σ H x v vl vu lo hi sl Q I rx hs pl pu q
noncomputable def tSl(r:V->Option Int->Option Int->Hp->VK->Prop)(te:TE)(tl th:TO):TE:=λσ H Q=>te σ H λx H1=>tl σ H1 λl H2=>th σ H2 λu H3=>r x l u H3 Q
theorem pe_slice(hr:SlR X r)(he:PE X e te)(hl:PO X lo tl)(hu:PO X hi th):PE X (.Subscript e (.Slice lo hi none p2) pos) (tSl r te tl th):=by
 intro pins s σ H Q I h;refine Subscript_ (thn (he pins s σ H _ I h) λv s1 ⟨x,H1,I1,r1,q1⟩=>?_);refine wpAny_Slice (thn (hl pins s1 σ H1 _ I1 q1) λvl s2 ⟨l,H2,I2,pl,q2⟩=>thn (hu pins s2 σ H2 _ I2 q2) λvu s3 ⟨u,H3,I3,pu,q3⟩=>?_);rw[evalPart_none];refine Ã ?_;have I4:Inv X pins σ H3 { s3 with heap:=s3.heap.push { cls:=.type "slice",data:=.fields #[vl,vu,.none] } }:=I3.kept (t':=s3.toks) λb ob q=>È _ q;obtain ⟨T,id,hT,ht,hg⟩:=hr pins { s3 with heap:=s3.heap.push { cls:=.type "slice",data:=.fields #[vl,vu,.none] } } σ H3 x v vl vu l u s3.heap.objs.size Q I4 r1 (Heap.IsSliceOf.new ..) pl pu q3;show Ë (model X.prog X.w) X.A (subscriptTail e (.Slice lo hi none p2) v (.ref s3.heap.objs.size)) (EP X pins σ Q) X.xe { s3 with heap:=s3.heap.push { cls:=.type "slice",data:=.fields #[vl,vu,.none] } };exact tail_any (ops:=[.ref s3.heap.objs.size,v]) ht hT hg (by with_unfolding_all rfl)
noncomputable def dg(xs:List V)(lo hi:Option Int):List V:=(xs.drop (HT.sIx xs.length 0 lo)).take (HT.sIx xs.length xs.length hi-HT.sIx xs.length 0 lo)
theorem qde(xs:List V)(lo hi:Option Int):(dg xs lo hi).length<=xs.length:=by
 unfold dg;rw[aN,List.length_drop];omega
noncomputable def rSlT(K:Þ):V->Option Int->Option Int->Hp->VK->Prop:=λx lo hi H Q=>∃a xs,x=.ref a/\SqT K H a xs/\
 ¬ (HT.sIx xs.length 0 lo=0/\HT.sIx xs.length xs.length hi=xs.length)/\∀p,H p=none->Q (.ref p) (upd H p (.tup (dg xs lo hi)))
theorem sl_tup:SlR X (rSlT X.K):=by
 intro pins s σ H x v vl vu lo hi sl Q I rx hs pl pu h;obtain ⟨a,xs,rfl,hx,hw,q⟩:=h;cases rx;obtain ⟨its,r,ht,hz⟩:=I.tuple hx;have hlen:its.toArray.size=xs.length:=by rw[Ú];exact r.length.symm
 refine ⟨"tuple",_,PyProof.Rows.slot_tuple_getitem.lookup,ht.typeIs,?_⟩;refine HT.getItem_tuple_cut ht hs pl pu (by rw[hlen];exact hw) ?_ (by rw[hlen];exact hz);rw[hlen];refine ⟨.ref s.heap.objs.size,_,I.laid (t':=s.toks) (o:=.tup (dg xs lo hi)) (λb ob q=>È _ q) (Ò _) ?_,rfl,q _ (I.hok.fresh (Ò _))⟩;exact ⟨Ğ (qde xs lo hi) hz,_,(r.drop (HT.sIx xs.length 0 lo)).take (HT.sIx xs.length xs.length hi-HT.sIx xs.length 0 lo),IsTup.new _ _⟩
noncomputable def rCatT(K:Þ):R2:=λx y H Q=>∃a b xs ys,x=.ref a/\y=.ref b/\SqT K H a xs/\SqT K H b ys/\xs≠[]/\xs.length+ys.length<=Õ/\
 (ys=[]->Q (.ref a) H)/\(ys≠[]->∀p,H p=none->Q (.ref p) (upd H p (.tup (xs++ys))))
theorem Vals.nil_iff(r:Vals xs us):us=[]↔xs=[]:=by
 cases r with
 |nil=>simp
 |cons _ _=>simp
theorem op_catT:OpR X (Ń .Add) (rCatT X.K):=by
 intro pins s σ H x y v u Q I rx ry h;obtain ⟨a,b,xs,ys,rfl,rfl,ha,hb,hx,hz,q1,q2⟩:=h;cases rx;cases ry;obtain ⟨its,r1,p1,_⟩:=I.tuple ha;obtain ⟨its2,r2,p2,_⟩:=I.tuple hb;refine HT.cat_tup p1 p2 (λz=>hx (r1.nil_iff.mp z)) (λz=>⟨.ref a,H,I,rfl,q1 (r2.nil_iff.mp z)⟩) (λz=>?_) (by rw[<-r1.length,<-r2.length];exact hz);refine ⟨.ref s.heap.objs.size,_,I.laid (t':=s.toks) (o:=.tup (xs++ys)) (λb ob q=>È _ q) (Ò _) ?_,rfl,q2 (λw=>z (r2.nil_iff.mpr w)) _ (I.hok.fresh (Ò _))⟩;exact ⟨by rw[Ó];exact hz,_,r1.append r2,IsTup.new _ _⟩
end
noncomputable def eL(n:Nat)(i:Int):Option Nat:=if 0<=i then (if i<n then some i.toNat else none) else if -(n:Int)<=i then some (i+n).toNat else none
noncomputable def atI{α:Type}(xs:List α)(i:Int):Option α:=(eL xs.length i).bind λj=>xs[j]?
theorem qje(h:eL n i=some j):seqIndex? i n=some j/\j<n/\-(n:Int)<=i/\i<n:=by
 unfold eL at h;by_cases h0:0<=i
 ·rw[if_pos h0]at h;by_cases h1:i<n
  ·rw[if_pos h1]at h;have e:i.toNat=j:=ď h;exact ⟨by rw[seqIndex_of h0 h1,e],by omega,by omega,h1⟩
  ·rw[if_neg h1]at h;cases h
 ·rw[if_neg h0]at h;by_cases h1:-(n:Int)<=i
  ·rw[if_pos h1]at h;have e:(i+n).toNat=j:=ď h;exact ⟨by rw[seqIndex_neg (by omega) h1,e],by omega,h1,by omega⟩
  ·rw[if_neg h1]at h;cases h
theorem qf1(h:atI xs i=some v):∃j,seqIndex? i xs.length=some j/\xs[j]?=some v/\j<xs.length/\-(xs.length:Int)<=i/\i<xs.length:=by
 unfold atI at h;cases e:eL xs.length i with
 |none=>rw[e]at h;cases h
 |some j=>
  rw[e]at h;obtain ⟨h1,h2,h3,h4⟩:=qje e;exact ⟨j,h1,h,h2,h3,h4⟩
noncomputable def qjm(b:Expr):Prop:=∀o i,subscripted b false o i=operate [o,i] (getItem o i)
noncomputable def IxR(X:Cx)(r:R2):Prop:=
 ∀(value slice:Expr) (pins:List (Addr×Obj)) (s:Ç) (σ:St) (H:Hp) (x y:V) (v u:Æ) (Q:VK),Inv X pins σ H s->RelV x v->RelV y u->r x y H Q->
  subscripted slice false v u=operate [v,u] (getItem v u)->Ë (model X.prog X.w) X.A (subscriptTail value slice v u) (EP X pins σ Q) X.xe s
noncomputable def MtR(X:Cx)(id:String)(r:V->List V->Hp->VK->Prop):Prop:=
 ∀(pins:List (Addr×Obj)) (s:Ç) (σ:St) (H:Hp) (x:V) (xs:List V) (v:Æ) (us:List Æ) (Q:VK),Inv X pins σ H s->RelV x v->Vals xs us->r x xs H Q->
  Ë (model X.prog X.w) X.A (call (.builtin id) (v::us)) (EP X pins σ Q) X.xe s
section
variable {X:Cx}{a b:Expr}{ta tb:TE}{pos:Pos}
theorem IxR.or(h:IxR X r)(h':IxR X r'):IxR X (λx y H Q=>r x y H Q\/r' x y H Q):=by
 intro value slice pins s σ H x y v u Q I rx ry q hs;rcases q with q|q
 ·exact h value slice pins s σ H x y v u Q I rx ry q hs
 ·exact h' value slice pins s σ H x y v u Q I rx ry q hs
theorem pe_ix(hr:IxR X r)(ha:PE X a ta)(hb:PE X b tb)(hs:qjm b:=by intro _ _;rfl):PE X (.Subscript a b pos) (tOp r ta tb):=by
 intro pins s σ H Q I h;exact Subscript_ (binT ha hb I h λv u s2 x y H2 I2 rx ry q=>hr a b pins s2 σ H2 x y v u Q I2 rx ry q (hs _ _))
noncomputable def rIxL(K:Þ):R2:=λx y H Q=>∃p xs i v,x=.ref p/\y=.int i/\SqL K H p xs/\atI xs i=some v/\Q v H
noncomputable def rIxT(K:Þ):R2:=λx y H Q=>∃p xs i v,x=.ref p/\y=.int i/\SqT K H p xs/\atI xs i=some v/\Q v H
noncomputable def rIxS:R2:=λx y H Q=>∃z i c,x=.str z/\y=.int i/\z.length<=Õ/\atI z.cps.toList i=some c/\Q (.str ⟨#[c]⟩) H
theorem ix_list:IxR X (rIxL X.K):=by
 intro value slice pins s σ H x y v u Q I rx ry h hs;obtain ⟨p,xs,i,z,rfl,rfl,hq,he,q⟩:=h;cases rx;obtain ⟨t,rfl⟩:=ry;obtain ⟨its,r,pl,hz⟩:=I.list hq;obtain ⟨j,h1,h2,h3,h4,h5⟩:=qf1 he;obtain ⟨w,ew,rw'⟩:=r.get h2;have hl:=r.length;have hn:=yd7;have fin:EP X pins σ Q w s:=⟨z,H,I,rw',q⟩;by_cases h0:0<=i
 ·have hj:i.toNat=j:=by
   rw[seqIndex_of h0 h5]at h1;exact ď h1
  exact item_listR pl.isList h0 (by omega) (by rw[hj];simpa using ew) fin hs
 ·have hj:(i+(its.toArray.size:Int)).toNat=j:=by
   rw[seqIndex_neg (by omega) h4]at h1;rw[Ú,<-hl];exact ď h1
  exact subscriptTail_builtinR (x:=w) pl.isList.typeIs cO.lookup
   (wpAny_getItem_list_neg (Q:=λr s'=>r=w/\EP X pins σ Q r s') pl.isList (by omega) (by rw[Ú]<;>omega) (by omega) (by rw[hj];simpa using ew) ⟨rfl,fin⟩) hs
theorem ix_tup:IxR X (rIxT X.K):=by
 intro value slice pins s σ H x y v u Q I rx ry h hs;obtain ⟨p,xs,i,z,rfl,rfl,hq,he,q⟩:=h;cases rx;obtain ⟨t,rfl⟩:=ry;obtain ⟨its,r,pl,hz⟩:=I.tuple hq;obtain ⟨j,h1,h2,h3,h4,h5⟩:=qf1 he;obtain ⟨w,ew,rw'⟩:=r.get h2;have hl:=r.length;have hn:=yd7;have fin:EP X pins σ Q w s:=⟨z,H,I,rw',q⟩;exact subscriptTail_builtinR (x:=w) pl.typeIs slot_tuple_getitem.lookup
  (getItem_tuple (j:=j) (Q:=λr s'=>r=w/\EP X pins σ Q r s') pl (by omega) (by omega) (by rw[Ú,<-hl];exact h1) (by simpa using ew) ⟨rfl,fin⟩) hs
theorem ix_str:IxR X rIxS:=by
 intro value slice pins s σ H x y v u Q I rx ry h hs;obtain ⟨z,i,c,rfl,rfl,hz,he,q⟩:=h;obtain ⟨t,rfl⟩:=rx;obtain ⟨t',rfl⟩:=ry;obtain ⟨j,h1,h2,h3,h4,h5⟩:=qf1 he;have hl:z.cps.toList.length=z.length:=by simp[Str.length]
 rw[hl]at h1 h4 h5;have hn:=yd7;exact tail_any (typeIs_str s z t) slot_str_getitem.lookup (getItem_str (c:=c) (by
  have e1:decide (i < -(2 ^ 63:Int))=false:=decide_eq_false (by omega);have e2:decide (i≥2 ^ 63)=false:=decide_eq_false (by omega);rw[e1,e2,Bool.or_false]) (by rw[h1];simpa using h2) ⟨.str ⟨#[c]⟩,H,I.tok _,⟨_,rfl⟩,q⟩) hs
theorem yhz(its:List Æ)(n j:Nat)(u:Æ):Ĝ (·.setIfInBounds j u) { cls:=.type "list",data:=.seq its.toArray n }={ cls:=.type "list",data:=.seq (its.set j u).toArray n }:=by
 simp[Ĝ]
theorem Inv.lst(I:Inv X pins σ H s)(h:H p=some (.lst xs)) :
  ∃(its:List Æ) (n:Nat),Vals xs its/\s.heap.get? p=some { cls:=.type "list",data:=.seq its.toArray n }/\xs.length<=Õ:=by
 obtain ⟨z,its,n,r,e⟩:=I.hok p _ h;exact ⟨its,n,r,e,z⟩
theorem Inv.lstUpd{pins:List (Addr×Obj)}{σ:St}{H:Hp}{s:Ç}{p:Addr}{xs ys:List V}{its its':List Æ}{n n':Nat}{f:Obj->Obj}(I:Inv X pins σ H s)(h:H p=some (.lst xs))
  (ho:s.heap.get? p=some { cls:=.type "list",data:=.seq its.toArray n }) (hf:f { cls:=.type "list",data:=.seq its.toArray n }={ cls:=.type "list",data:=.seq its'.toArray n' }) (r:Vals ys its') (hz:ys.length<=Õ) (t:Nat) :
  Inv X pins σ (upd H p (.lst ys)) { s with heap:=s.heap.update p f,toks:=t }:=by
 have e:(s.heap.update p f).get? p=some { cls:=.type "list",data:=.seq its'.toArray n' }:=by
  rw[Ő f ho (by rw[hf]<;>rfl),hf]
 refine I.write (x:=p) (e:=p) (by rw[h];trivial) (.inl rfl) (λb u hb q=>(Ŷ _ _ (ń hb)).trans q) ⟨_,e⟩ ?_;exact ⟨hz,its',n',r,e⟩
noncomputable def rSetL:V->V->V->Hp->(Hp->Prop)->Prop:=λo i v H Q=>∃p xs k j,o=.ref p/\i=.int k/\H p=some (.lst xs)/\eL xs.length k=some j/\Q (upd H p (.lst (xs.set j v)))
theorem set_list:PSet X rSetL:=by
 intro pins s σ H o i v ov iv u Q I ro ri rv h;obtain ⟨p,xs,k,j,rfl,rfl,hp,hj,q⟩:=h;cases ro;obtain ⟨t,rfl⟩:=ri;obtain ⟨its,n,r,ho,hz⟩:=I.lst hp;obtain ⟨h1,h2,h3,h4⟩:=qje hj;have hl:=r.length;have hn:=yd7;have I':Inv X pins σ (upd H p (.lst (xs.set j v))) { s with heap:=s.heap.update p (Ĝ (·.setIfInBounds j u)) }:=
  I.lstUpd hp ho (yhz its n j u) (r.set rv j) (by rw[Ł];exact hz) s.toks
 by_cases h0:0<=k
 ·have hk:k.toNat=j:=by
   rw[seqIndex_of h0 h4]at h1;exact ď h1
  exact W.ki_setAt ho h0 (by omega) (by rw[Ú,<-hl];exact h4) (by rw[hk];exact ⟨_,I',q⟩)
 ·have hk:(k+(its.toArray.size:Int)).toNat=j:=by
   rw[seqIndex_neg (by omega) h3]at h1;rw[Ú,<-hl];exact ď h1
  exact W.ki_setBack ho (by omega) (by rw[Ú,<-hl];exact h3) (by omega) (by rw[hk];exact ⟨_,I',q⟩)
theorem yfd(lo hi:Option Int)(n:Nat):(aM lo hi none n).1=((HT.sIx n 0 lo:Nat):Int)/\(aM lo hi none n).2.1=((HT.sIx n n hi:Nat):Int)/\(aM lo hi none n).2.2=1:=by
 refine ⟨?_,?_,rfl⟩
 ·cases lo with
  |none=>simp[aM,HT.sIx]
  |some i=>
   simp only[aM,HT.sIx,Option.getD_none,show (1:Int)>0 by decide,if_true];by_cases h:i<0
   ·simp only[h,if_true]<;>omega
   ·simp only[h,if_false]<;>omega
 ·cases hi with
  |none=>simp[aM,HT.sIx]
  |some i=>
   simp only[aM,HT.sIx,Option.getD_none,show (1:Int)>0 by decide,if_true];by_cases h:i<0
   ·simp only[h,if_true]<;>omega
   ·simp only[h,if_false]<;>omega
theorem qez(its:List Æ)(lo hi:Option Int):slicePick its.toArray lo hi none=((its.drop (HT.sIx its.length 0 lo)).take (HT.sIx its.length its.length hi-HT.sIx its.length 0 lo)).toArray:=by
 obtain ⟨h1,h2,h3⟩:=yfd lo hi its.toArray.size;unfold slicePick;rw[h1,h2,h3];simp only[sliceRange_one,pick_run,Ú]<;>rfl
noncomputable def rSlL(K:Þ):V->Option Int->Option Int->Hp->VK->Prop:=λx lo hi H Q=>∃a xs,x=.ref a/\SqL K H a xs/\∀p,H p=none->Q (.ref p) (upd H p (.lst (dg xs lo hi)))
theorem sl_list:SlR X (rSlL X.K):=by
 intro pins s σ H x v vl vu lo hi sl Q I rx hs pl pu h;obtain ⟨a,xs,rfl,hx,q⟩:=h;cases rx;obtain ⟨its,r,ht,hz⟩:=I.list hx;have hlen:=r.length;refine ⟨"list",_,cO.lookup,ht.isList.typeIs,?_⟩;refine wpAny_getItem_list_slice ht.isList hs pl pu .none (by simp) ?_ (by rw[Ú]<;>omega);rw[qez,<-hlen];refine ⟨.ref s.heap.objs.size,_,I.laid (t':=s.toks) (o:=.lst (dg xs lo hi)) (λb ob q=>È _ q) (Ò _) ?_,rfl,q _ (I.hok.fresh (Ò _))⟩;exact ⟨Ğ (qde xs lo hi) hz,_,0,(r.drop (HT.sIx xs.length 0 lo)).take (HT.sIx xs.length xs.length hi-HT.sIx xs.length 0 lo),Ô _ rfl⟩
theorem qfs:bH X (.builtin "len") (λxs H Q=>∃p ys,xs=[.ref p]/\(SqL X.K H p ys\/SqT X.K H p ys)/\Q (.int ys.length) H):=by
 intro pins s σ H xs us Q I r h;obtain ⟨p,ys,rfl,hq,q⟩:=h;obtain ⟨u,rfl,rx⟩:=qfk r;cases rx;have hn:=yd7;rcases hq with hq|hq
 ·obtain ⟨its,r',pl,hz⟩:=I.list hq;have hlen:=r'.length;exact Calls.call_len_list pl.isList (by simp only[Ú]<;>omega) ⟨.int ys.length,H,I.tok _,⟨s.toks+1,by rw[Ú,hlen]⟩,q⟩
 ·obtain ⟨its,r',pl,hz⟩:=I.tuple hq;have hlen:=r'.length;exact len_tuple pl (by simp only[Ú]<;>omega) ⟨.int ys.length,H,I.tok _,⟨s.toks+1,by rw[Ú,hlen]⟩,q⟩
theorem qe0:bH X (.builtin "len") (λxs H Q=>∃z,xs=[.str z]/\z.length<=Õ/\Q (.int z.length) H):=by
 intro pins s σ H xs us Q I r h;obtain ⟨z,rfl,hz,q⟩:=h;obtain ⟨u,rfl,t,rfl⟩:=qfk r;have hn:=yd7;exact len_str (by omega) ⟨.int z.length,H,I.tok _,⟨_,rfl⟩,q⟩
theorem bH.or(h:bH X f r)(h':bH X f r'):bH X f (λxs H Q=>r xs H Q\/r' xs H Q):=by
 intro pins s σ H xs us Q I rs q;rcases q with q|q
 ·exact h pins s σ H xs us Q I rs q
 ·exact h' pins s σ H xs us Q I rs q
theorem ycs:bH X (.type "list") (λxs H Q=>∃p ys,xs=[.ref p]/\(SqL X.K H p ys\/SqT X.K H p ys)/\∀l,H l=none->Q (.ref l) (upd H l (.lst ys))):=by
 intro pins s σ H xs us Q I r h;obtain ⟨p,ys,rfl,hq,q⟩:=h;obtain ⟨u,rfl,rx⟩:=qfk r;cases rx;have fin:∀(its:List Æ),Vals ys its->ys.length<=Õ->∀(h':Heap) (c':Nat),(∀b o',s.heap.get? b=some o'->h'.get? b=some o')->
   h'.get? s.heap.objs.size=some { cls:=.type "list",dict:=none,data:=.seq its.toArray c',slots:=#[] }->EP X pins σ Q (.ref s.heap.objs.size) { s with heap:=h' }:=λits r' hz h' c' kp e=>
  ⟨.ref s.heap.objs.size,_,I.laid (t':=s.toks) kp (Ò _) (show bh X.prog X.w _ h' _ (.lst ys) from ⟨hz,its,c',r',e⟩),rfl,q _ (I.hok.fresh (Ò _))⟩
 rcases hq with hq|hq
 ·obtain ⟨its,r',pl,hz⟩:=I.list hq;have hlen:=r'.length;obtain ⟨o,ho,hc,n,hd⟩:=pl.isList;exact call_list_seq p (.inl rfl) ho hc hd (λh' c' kp e=>fin its r' hz h' c' kp e) (by simp only[Ú]<;>omega)
 ·obtain ⟨its,r',pl,hz⟩:=I.tuple hq;have hlen:=r'.length;obtain ⟨o,ho,hc,n,hd⟩:=pl;exact call_list_seq p (.inr rfl) ho hc hd (λh' c' kp e=>fin its r' hz h' c' kp e) (by simp only[Ú]<;>omega)
theorem yer:bH X (.type "tuple") (λxs H Q=>∃p ys,xs=[.ref p]/\((SqL X.K H p ys/\∀l,H l=none->Q (.ref l) (upd H l (.tup ys)))\/(SqT X.K H p ys/\Q (.ref p) H))):=by
 intro pins s σ H xs us Q I r h;obtain ⟨p,ys,rfl,h⟩:=h;obtain ⟨u,rfl,rx⟩:=qfk r;cases rx;rcases h with ⟨hq,q⟩|⟨hq,q⟩
 ·obtain ⟨its,r',pl,hz⟩:=I.list hq;have hlen:=r'.length;refine call_tuple_list pl.isList (λh' kp=>?_) (by simp only[Ú]<;>omega);have I1:Inv X pins σ H { s with heap:=h' }:=I.kept (t':=s.toks) kp;have I2:Inv X pins σ (upd H h'.objs.size (.tup ys)) { s with heap:=h'.push { cls:=.type "tuple",data:=.seq its.toArray } }:=
   I1.laid (t':=s.toks) (λb o e=>È _ e) (Ò _) (show bh X.prog X.w _ _ _ (.tup ys) from ⟨hz,its,r',IsTup.new _ _⟩)
  exact ⟨.ref h'.objs.size,_,I2,rfl,q _ (I1.hok.fresh (Ò _))⟩
 ·obtain ⟨its,r',pl,hz⟩:=I.tuple hq;exact call_tuple_same pl ⟨.ref p,H,I,rfl,q⟩
noncomputable def tyV(K:Þ)(T:String)(x:V)(H:Hp):Prop:=match x with
 |.str _=>T="str"
 |.int _=>T="int"
 |.ref p=>(T="list"/\∃xs,SqL K H p xs)\/(T="tuple"/\∃o,K.lookup p=some o/\o.cls=.type "tuple"/\o.dict=none)\/
   (T="dict"/\((∃kvs,H p=some (.dK kvs))\/∃kvs,H p=some (.dT kvs)))\/(T="set"/\∃S n,H p=some (.set S n))
 |_=>False
theorem tyV_is(I:Inv X pins σ H s)(r:RelV x v)(ty:tyV X.K T x H) :
  s.TypeIs v T/\∀a,v=.ref a->∃ob,s.heap.get? a=some ob/\ob.dict=none:=by
 cases x with
 |str z=>
  obtain ⟨t,rfl⟩:=r;cases (show T="str" from ty);exact ⟨typeIs_str s z t,λ_ e=>nomatch e⟩
 |int i=>
  obtain ⟨t,rfl⟩:=r;cases (show T="int" from ty);exact ⟨typeIs_int s i t,λ_ e=>nomatch e⟩
 |ref p=>
  cases r;rcases ty with ⟨rfl,xs,hq⟩|⟨rfl,o,hk,hc,hd⟩|⟨rfl,hk⟩|⟨rfl,S,n,hk⟩
  ·obtain ⟨its,_,pl,_⟩:=I.list hq;refine ⟨pl.isList.typeIs,λa e=>?_⟩;cases e;obtain ⟨o,n,e,c,hd,_⟩:=pl;exact ⟨o,e,hd⟩
  ·refine ⟨⟨o,I.kIn p o hk,hc⟩,λa e=>?_⟩;cases e;exact ⟨o,I.kIn _ o hk,hd⟩
  ·have z:∃o,s.heap.get? p=some o/\o.ExactDict:=by
    rcases hk with ⟨kvs,hk⟩|⟨kvs,hk⟩
    ·obtain ⟨_,_,_,_,o,_,_,e,ex,_⟩:=I.hok p _ hk;exact ⟨o,e,ex⟩
    ·obtain ⟨_,_,_,_,o,_,_,e,ex,_⟩:=I.hok p _ hk;exact ⟨o,e,ex⟩
   obtain ⟨o,e,ex⟩:=z;refine ⟨⟨o,e,ex.1⟩,λa e2=>?_⟩;cases e2;exact ⟨o,e,ex.2.1⟩
  ·obtain ⟨o,_,_,_,e,ex,_⟩:=I.hok p _ hk;refine ⟨⟨o,e,ex.1⟩,λa e2=>?_⟩;cases e2;exact ⟨o,e,ex.2.1⟩
 |_=>exact ĭ ty
noncomputable def tBM0(K:Þ)(T:String)(r:V->List V->Hp->VK->Prop)(to:TE):TE:=λσ H Q=>to σ H λx H1=>tyV K T x H1/\r x [] H1 Q
noncomputable def tBM(K:Þ)(T:String)(r:V->List V->Hp->VK->Prop)(to:TE)(t:TA):TE:=λσ H Q=>to σ H λx H1=>tyV K T x H1/\t σ H1 λxs H2=>r x xs H2 Q
variable {o e:Expr}{es:List Expr}{to:TE}{t:TA}{name:Str}{apos cpos:Pos}{T id:String}{r:V->List V->Hp->VK->Prop}
theorem pe_bm0(pa:PlainAttrs T)(slot:Slot T name id)(hty:typeOf (.builtin id)=pure (.type "method_descriptor"))(hm:MtR X id r)(ho:PE X o to)
  (hbase:Ű o name X.env (eval o X.env)=eval o X.env:=by rfl) (hline:(apos.endLine == cpos.line)=true:=by rfl):PE X (.Call (.Attribute o name apos) [] [] cpos) (tBM0 X.K T r to):=by
 intro pins s σ H Q I h;refine wpAny_Call_method0_late hbase hline (thn (ho pins s σ H _ I h) λv s1 ⟨x,H1,I1,r1,ty,q1⟩=>?_);obtain ⟨h1,h2⟩:=tyV_is I1 r1 ty;exact ⟨T,id,pa,slot,hty,h1,h2,Calls.callWith_builtin rfl (PySem.evalArgs_none (hm pins s1 σ H1 x [] v [] Q I1 r1 .nil q1))⟩
theorem qki(pa:PlainAttrs T)(slot:Slot T name id)(hty:typeOf (.builtin id)=pure (.type "method_descriptor"))(hm:MtR X id r)(ho:PE X o to)(ha:PA X (e::es) t)
  (hbase:Ű o name X.env (eval o X.env)=eval o X.env:=by rfl)
  (hfew:((ľ cpos (â (e::es) X.env)).all (λx=>!x.1)&&(backToKw cpos (ť [] X.env)).all (λx=>x.1.isSome)
   && decide ((e::es).length+([]:List Keyword).length+(if ([]:List Keyword).isEmpty then 0 else 1)<30))=true:=by rfl)
  (hline:(apos.endLine == cpos.line)=true:=by rfl) (hs:â (e::es) X.env=(false,eval e X.env)::â es X.env:=by rfl) (hplain:(ľ cpos (â es X.env)).any (·.1)=false:=by rfl) :
  PE X (.Call (.Attribute o name apos) (e::es) [] cpos) (tBM X.K T r to t):=by
 intro pins s σ H Q I h;refine wpAny_Call_method_late hbase hfew hline rfl (thn (ho pins s σ H _ I h) λv s1 ⟨x,H1,I1,r1,ty,q1⟩=>?_);obtain ⟨h1,h2⟩:=tyV_is I1 r1 ty;refine ⟨T,id,pa,slot,hty,h1,h2,?_⟩;have hA:=ha cpos pins s1 σ H1 _ I1 q1;rw[hs]at hA ⊢;refine Calls.callWith_builtin (by show (false||(ľ cpos (â es X.env)).any (·.1))=false;rw[hplain]<;>rfl) (Calls.evalArgs_plain ?_);exact thn hA λus s2 ⟨vs,H2,I2,r2,q2⟩=>hm pins s2 σ H2 x vs v us Q I2 r1 r2 q2
end
noncomputable def MtM(X:Cx)(id:String)(r:V->List V->Hp->VK->Prop):Prop:=
 ∀(pins:List (Addr×Obj)) (s:Ç) (σ:St) (H:Hp) (x:V) (xs:List V) (v:Æ) (us:List Æ) (Q:VK),Inv X pins σ H s->RelV x v->Vals xs us->r x xs H Q->
  Ë (model X.prog X.w) X.A (call (.builtin id) (v::us)) (EP X pins σ Q) X.xe s
theorem Vals.one:∀{x:V}{us:List Æ},Vals [x] us->∃u,us=[u]/\RelV x u
 |_,_,.cons r .nil=>⟨_,rfl,r⟩
theorem Vals.zero:∀{us:List Æ},Vals [] us->us=[]
 |_,.nil=>rfl
theorem Vals.dropLast(h:Vals xs us):Vals xs.dropLast us.dropLast:=by
 induction h with
 |nil=>exact .nil
 |cons r t ih=>
  cases t with
  |nil=>exact .nil
  |cons q t'=>exact .cons r ih
theorem Vals.rep(h:Vals xs us):∀k:Nat,Vals (Ă k xs).flatten (Ă k us).flatten
 |0=>.nil
 |k+1=>by
  rw[δ,δ,flatten_cons,flatten_cons];exact Vals.append h (Vals.rep h k)
theorem yhj(l:List α):l.eraseIdx (l.length-1)=l.dropLast:=by
 induction l with
 |nil=>rfl
 |cons a r ih=>
  cases r with
  |nil=>rfl
  |cons b r=>
   have e:(a::b::r).length-1=((b::r).length-1)+1:=by
    have h1:(a::b::r).length=r.length+2:=rfl;have h2:(b::r).length=r.length+1:=rfl;omega
   rw[e,List.eraseIdx_cons_succ,ih]
   all_goals rfl
theorem ye5(its:List Æ):∀(k:Nat) (acc:List Æ),
  List.foldl (λx1 x2=>x1++x2) acc.toArray (Ă k its.toArray)=(acc++(Ă k its).flatten).toArray
 |0,acc=>by simp
 |k+1,acc=>by
  have e:acc.toArray++its.toArray=(acc++its).toArray:=by simp
  have e2:(acc++its)++(Ă k its).flatten=acc++(Ă (k+1) its).flatten:=by
   rw[δ,flatten_cons,ō]
  rw[<-e2,<-ye5 its k (acc++its),<-e,δ,List.foldl_cons]
section
variable {X:Cx}{pins:List (Addr×Obj)}{σ:St}{H:Hp}{s:Ç}{l b:Addr}{xs ys zs:List V}
theorem Inv.lset{its its':List Æ}{n:Nat}{f:Array Æ->Array Æ}{t':Nat}(I:Inv X pins σ H s)(hH:H l=some (.lst xs))
  (e:s.heap.get? l=some { cls:=.type "list",data:=.seq its.toArray n }) (hf:f its.toArray=its'.toArray) (hv:Vals ys its') (hz:ys.length<=Õ) :
  Inv X pins σ (upd H l (.lst ys)) { s with heap:=s.heap.update l (Ĝ f),toks:=t' }:=by
 have q:=PySem.IsL.update e f;rw[hf]at q;refine I.write (x:=l) (e:=l) (by rw[hH];exact trivial) (.inl rfl) (λb' u hb hu=>(Ŷ s.heap (Ĝ f) (ń hb)).trans hu) ⟨_,q⟩ ?_;exact ⟨hz,its',_,hv,q⟩
theorem Inv.lnew(I:Inv X pins σ H s)(hv:Vals ys its)(hz:ys.length<=Õ) :
  Inv X pins σ (upd H s.heap.objs.size (.lst ys)) { s with heap:=s.heap.push { cls:=.type "list",data:=.seq its.toArray },toks:=t' }:=
 I.laid (λ_ _ q=>È _ q) (Ò _) ⟨hz,its,0,hv,Ô _ rfl⟩
theorem Inv.fresh(I:Inv X pins σ H s):H s.heap.objs.size=none:=I.hok.fresh (Ò _)
theorem Inv.lstM(I:Inv X pins σ H s)(hH:H l=some (.lst xs)):xs.length<=Õ/\∃(its:List Æ) (n:Nat),Vals xs its/\xs.length=its.length/\s.heap.get? l=some { cls:=.type "list",data:=.seq its.toArray n }:=by
 obtain ⟨z,its,n,r,e⟩:=I.hok l _ hH;exact ⟨z,its,n,r,r.length,e⟩
theorem yg6(h:n<=Õ):ŭ n=false:=by
 unfold ŭ;exact decide_eq_false (by omega)
end
section
variable {X:Cx}
noncomputable def rAppend:V->List V->Hp->VK->Prop:=λx vs H Q=>∃l xs y,x=.ref l/\vs=[y]/\H l=some (.lst xs)/\xs.length<Õ/\Q .non (upd H l (.lst (xs++[y])))
theorem qfe:MtM X "list.append" rAppend:=by
 intro pins s σ H x vs v us Q I rx rv h;obtain ⟨l,xs,y,rfl,rfl,hH,hz,q⟩:=h;cases rx;obtain ⟨u,rfl,ru⟩:=rv.one;obtain ⟨z,its,n,r,hl,e⟩:=I.lstM hH;refine call_meets F.slot_list_append ⟨_,e,rfl⟩ F.entry_list_append (F.args_list_append_2 _ _) (PySem.list_append l its.toArray n u (by rw[Ú];omega)) ⟨e,?_⟩;refine ⟨.non,_,I.lset (its':=its++[u]) hH e (by simp) (r.append (.cons ru .nil)) ?_,rfl,q⟩;rw[Ó,List.length_singleton];omega
noncomputable def rExtend:V->List V->Hp->VK->Prop:=λx vs H Q=>∃l b xs zs,x=.ref l/\vs=[.ref b]/\H l=some (.lst xs)/\H b=some (.lst zs)/\xs.length+zs.length<=Õ/\Q .non (upd H l (.lst (xs++zs)))
theorem qi3:MtM X "list.extend" rExtend:=by
 intro pins s σ H x vs v us Q I rx rv h;obtain ⟨l,b,xs,zs,rfl,rfl,hH,hB,hz,q⟩:=h;cases rx;obtain ⟨u,rfl,ru⟩:=rv.one;cases ru;obtain ⟨z,its,n,r,hl,e⟩:=I.lstM hH;obtain ⟨z2,its2,n2,r2,hl2,e2⟩:=I.lstM hB;have hsz:its.toArray.size+its2.toArray.size<=Õ:=by rw[Ú,Ú];omega
 have hlong:¬ (!its.toArray.isEmpty&&ŭ (its.toArray.size+its2.toArray.size))=true:=by
  rw[yg6 hsz,Bool.and_false];exact ú
 refine call_meets F.slot_list_extend ⟨_,e,rfl⟩ F.entry_list_extend (F.args_list_extend_2 _ _)
  (AutoSeq1.list_extend_list_list_0 l its.toArray n b its2.toArray n2 hlong (by rw[Ú];omega) (by omega)) ⟨e,e2,?_⟩
 refine ⟨.non,_,I.lset (its':=its++its2) hH e (by simp) (r.append r2) ?_,rfl,q⟩;rw[Ó];omega
noncomputable def rPop:V->List V->Hp->VK->Prop:=λx vs H Q=>∃l xs y,x=.ref l/\vs=[]/\H l=some (.lst xs)/\xs[xs.length-1]?=some y/\Q y (upd H l (.lst xs.dropLast))
theorem mt_pop:MtM X "list.pop" rPop:=by
 intro pins s σ H x vs v us Q I rx rv h;obtain ⟨l,xs,y,rfl,rfl,hH,hy,q⟩:=h;cases rx;have hus:=rv.zero;subst hus;obtain ⟨z,its,n,r,hl,e⟩:=I.lstM hH;obtain ⟨u,hu,ru⟩:=r.get hy;have hy':its.toArray[its.toArray.size-1]?=some u:=by
  show its.toArray[its.length-1]?=some u;rw[<-ğ,<-hl];exact hu
 refine call_meets F.slot_list_pop ⟨_,e,rfl⟩ F.entry_list_pop (F.args_list_pop_1 _) (MeetsSeq.list_pop_last l its.toArray n u hy' (by rw[Ú];omega)) ⟨e,?_⟩;refine ⟨y,_,I.lset (its':=its.dropLast) hH e ?_ r.dropLast ?_,ru,q⟩
 ·show its.toArray.eraseIdxIfInBounds (its.toArray.size-1)=its.dropLast.toArray;rw[Ú,List.eraseIdxIfInBounds_toArray,yhj]
 ·rw[List.length_dropLast];omega
noncomputable def rRep:R2:=λx y H Q=>∃l k xs,x=.ref l/\y=.int k/\H l=some (.lst xs)/\-(2 ^ 63)<=k/\k<2 ^ 63/\xs.length*k.toNat<=Õ/\
 ∀p,H p=none->Q (.ref p) (upd H p (.lst (Ă k.toNat xs).flatten))
theorem len_rep(xs:List α)(k:Nat):(Ă k xs).flatten.length=k*xs.length:=by
 induction k with
 |zero=>simp
 |succ k ih=>rw[δ,flatten_cons,Ó,ih,Nat.succ_mul,Nat.add_comm]
theorem op_rep:OpR X (Ń .Mult) rRep:=by
 intro pins s σ H x y v u Q I rx ry h;obtain ⟨l,k,xs,rfl,rfl,hH,h1,h2,hz,q⟩:=h;cases rx;obtain ⟨t,rfl⟩:=ry;obtain ⟨z,its,n,r,hl,e⟩:=I.lstM hH;have hlen:its.toArray.size*k.toNat<=Õ:=by rw[Ú,<-hl];exact hz
 have hcap:¬ its.toArray.size*k.toNat>(2 ^ 63-1) / 8:=by
  have:(Õ:Nat)<=(2 ^ 63-1) / 8:=by decide
  omega
 have hfit:¬ (!Builtin.List.listFitsIndex k)=true:=by
  rw[fitsIndex_both h1 h2];exact ú
 have hlong:¬ ŭ (its.toArray.size*k.toNat)=true:=by
  rw[yg6 hlen];exact ú
 have hnew:List.foldl (λx1 x2=>x1++x2) #[] (Ă (if its.toArray.isEmpty=true then 0 else k.toNat) its.toArray)=(Ă k.toNat its).flatten.toArray:=by
  have f0:∀m:Nat,List.foldl (λx1 x2=>x1++x2) #[] (Ă m its.toArray)=(Ă m its).flatten.toArray:=λm=>by
   have:=ye5 its m [];rw[List.nil_append]at this;exact this
  rw[f0];cases its with
  |nil=>simp
  |cons a r'=>rw[if_neg (by simp)]
 refine wpAny_binaryOp_repeat_ref (T:="list") (U:="int") (by decide) ⟨_,e,rfl⟩ (λs'=>typeIs_int s' k t) noFill_list_mul F.fills_int_mul F.slot_int_rmul repeat_list F.slot_int_index.lookup
  (call_meets F.slot_int_rmul (typeIs_int s k t) F.entry_int_rmul (F.args_int_rmul_2 _ _) (int___rmul___int_list k t l its.toArray n)
   ⟨e,rfl,⟨_,e,rfl⟩,call_meets F.slot_list_mul ⟨_,e,rfl⟩ F.entry_list_mul (F.args_list_mul_2 _ _) (AutoListH.list___mul___list_int_3 l its.toArray n k t hfit hcap hlong) ⟨e,?_⟩⟩)
 rw[hnew];exact ⟨.ref _,_,I.lnew (t':=s.toks) (r.rep k.toNat) (by rw[len_rep,Nat.mul_comm];exact hz),rfl,q _ I.fresh⟩
end
end L2
namespace Att
open PySem PySem.W PySem.Calls PyProof.Rows
theorem yc7:∀(ns:List Int) (vs:List Æ),WellAll P h vs (ns.map WData.int)->Ļ vs ns:=by
 intro ns;induction ns with
 |nil=>
  intro vs w;rw[map_nil]at w;cases w;exact .nil
 |cons n ns ih=>
  intro vs w;rw[þ]at w;cases w with
  |cons a b=>
   cases a;exact .cons _ _ (ih _ b)
theorem qih{l:OpenLaw}{n:Nat}(hn:l.most=some n){P:Params}{h:Heap}{args:List WData}{vals:List Æ}
  (hpre:l.row.toRowW.claim.pre args=true) (hwl:WellAll P h vals args) :
  ∃a vs ns,vals=[ã a]/\args=[WData.list (ns.map WData.int)]/\h.get? a=some { cls:=.type "list",data:=.seq vs.toArray }/\Ļ vs ns/\ns.length<=n:=by
 have hsh:WShape.hasAll [] args [.list .int]=true:=(pre_splitW hpre).1;have hc:l.pre.holds [] { args:=args }=true:=(pre_splitW hpre).2;obtain ⟨d,r,rfl,h1,h2⟩:=hasAllW_cons hsh;obtain rfl:=hasAllW_nil h2;obtain ⟨xs,rfl,h3⟩:=hasW_list h1;obtain ⟨ns,rfl⟩:=items_int h3;have hlen:ns.length<=n:=by
  unfold OpenLaw.pre at hc;have h4:(WTm.not (.lt (.lit (.int (n:Int))) (.len (.arg 0)))).holds [] { args:=[.list (ns.map .int)] }=true:=by
   have h4:=(holds_andW hc).1;rw[hn]at h4;exact h4
  have h5:=condW_of h4 (w_not (w_lt w_lit (w_len_list (w_arg rfl))));rw[Ð]at h5;refine Nat.le_of_not_lt λq=>?_;have q':(n:Int)<((ns.length:Nat):Int):=by omega
  first
   | (rw[decide_eq_true q']at h5;exact absurd h5 (by decide))
   | (simp at h5;omega)
 cases hwl with
 |cons w1 w2=>
  cases w2;cases w1 with
  |list ho hall=>exact ⟨_,_,ns,rfl,rfl,ho,yc7 ns _ hall,hlen⟩
theorem qjl(l:OpenLaw)(args:List WData):l.row.toRowW.claim.post args (.bool true) args=true:=
 postW_of (r:=l.row.toRowW) (X:=(true == true))
  (show WShape.has [] (.bool true) .bool=true by first|rfl|decide|simp[WShape.has,WShape.arms,WShape.armsAll])
  (show (WTm.eq .res (.lit (.bool true))).value [] { args:=args,res:=some (.bool true),after:=args }=some (.bool (true == true)) from w_eq_bool (w_res rfl) w_lit) rfl
theorem attach_call{l:OpenLaw}{n:Nat}{q:Ü}{loose:List Str}{XP:(Str->Option Æ)->Heap->Prop}{YP:ï->Heap->Prop}{d:DefRec}
  (hn:l.most=some n) (hdf:d.params.defaults=[])
  (call:∀(w:ï) (s₀ s₁:Ç) (mg mb:Str->Option Æ) (fa:Addr) (o:Obj) (pm cd doc:Æ) (a:Addr) (vs:List Æ) (ns:List Int),
   Ground q loose [] XP w s₀ mg mb s₁.heap->YP w s₁.heap->
   s₁.heap.get? fa=some o->o.data=.func (docDef d.name d.params d.body d.scope pm cd doc)->s₁.heap.CodeRec cd d.name->mg d.name=some (.ref fa)->
   s₁.heap.get? a=some { cls:=.type "list",data:=.seq vs.toArray }->Ļ vs ns->ns.length<=n->s₁.gens=#[]->
   ag (model l.prog w) callerA (.call (.ref fa) ⟨[.ref a],[]⟩) (λr s'=>r=.ok (.ret (.bool true))/\OldK s₁.heap s'.heap/\s'.os=s₁.os/\AllBare s'.gens) s₁) :
  WalkO q loose XP YP l.row.toRowW d [] (λf vs=>PySem.call f vs):=by
 intro w s₀ s₁ mg mb G Y fa o pm cd doc dV kV ho hd hcd hD hmg hg args vals as hpre hlay hrd hwl hlo;obtain rfl:dV=.none:=Dflts.none hD hdf;obtain rfl:kV=.none:=Dflts.noKw hD;obtain ⟨a,vs,ns,rfl,rfl,hobj,hints,hlen⟩:=qih hn hpre hwl;refine enter_call (codeAny_mono (call w s₀ s₁ mg mb fa o pm cd doc a vs ns G Y ho (fd_plain hd) hcd hmg hobj hints hlen hg) λr s' hq=>?_);obtain ⟨rfl,h2,h3,h4⟩:=hq;exact ⟨.inl ⟨.bool true,.bool true,[],rfl,λ_=>rfl,.bool true,qjl l _,λ_=>⟨List.Pairwise.nil,λ_ hm=>(nomatch hm)⟩⟩,h2,h3,h4⟩
end Att
namespace L2
open PySem PySem.Spec PyProof.Rows
theorem qe9:∀{vs:List Æ}{ns:List Int},Ļ vs ns->Vals (ns.map V.int) vs
 |_,_,.nil=>.nil
 |_,_,.cons n t h=>.cons ⟨t,rfl⟩ (qe9 h)
noncomputable def Only(H:Hp):Prop:=∀b,H b=none\/∃o xs,H b=some (.frz o (.lst xs))
theorem law_call{P:Ü}{w:ï}{K:Þ}{mg mb:Str->Option Æ}{CX:CXT}{k:Nat}{fa a:Addr}{fd:ů}{x:Str}{sp:Sp}{s₁:Ç}{vs:List Æ}{ns:List Int}
  (KX:K.In s₁.heap) (hns:s₁.heap.Ns ù mg) (hb:s₁.heap.Ns builtinsNs mb) (hbb:∀x:Str,x≠"__name__"->mb x=Ī x) (hlim:s₁.heap.NoLimit) (hg:s₁.gens=#[])
  (ha:s₁.heap.get? a=some { cls:=.type "list",data:=.seq vs.toArray }) (hi:Ļ vs ns) (hl:ns.length<=Õ) (hr:Room k callerA)
  (F:∀base:Heap,K.In base->base.Ns ù mg->FnOk P w K mg base CX k fa fd [x] sp) (hbind:∀(s:Ç) (u:Æ),BindsTo s fd ⟨[u],[]⟩ [(x,u)])
  (hsp:∀H:Hp,Only H->SqL K H a (ns.map V.int)->sp [.ref a] H (λv _=>v=.bl true) λ_ _ _=>False)
  (hCX:∀H e s',CX [] H s₁ (λ_ _ _=>False) e s'->False) :
  ag (model P w) callerA (.call (.ref fa) ⟨[.ref a],[]⟩) (λr s'=>r=.ok (.ret (.bool true))/\OldK s₁.heap s'.heap/\s'.os=s₁.os/\AllBare s'.gens) s₁:=by
 have rv:=qe9 hi;have lenV:=hi.length
 -- from an abstract heap in which nothing but the script may be tracked
 have core:∀H:Hp,Only H->SqL K H a (ns.map V.int)->HOk P w H s₁.heap->(∀b,H b≠none->b=a)->(H a≠none->K.lookup a=none)->
   ag (model P w) callerA (.call (.ref fa) ⟨[.ref a],[]⟩) (λr s'=>r=.ok (.ret (.bool true))/\OldK s₁.heap s'.heap/\s'.os=s₁.os/\AllBare s'.gens) s₁:=by
  intro H hO hS hok hA hK;have base_of:∀{b:Addr}{o:Obj},s₁.heap.get? b=some o->H b=none->(cM s₁.heap H).get? b=some o:=λe n=>hidT_get e n;have noA:∀{b:Addr}{o:Obj}{es:Array DictEntry}{ep:Nat},s₁.heap.get? b=some o->o.data=.dict es ep->H b=none:=λ{b o es ep} e d=>by
   cases q:H b with
   |none=>rfl
   |some u=>
    have e':b=a:=hA b (by rw[q];simp);subst e';rw[ha]at e;cases e;have d':Data.seq vs.toArray _=Data.dict es ep:=d;cases d'
  have nsK:∀{b:Addr}{m:Str->Option Æ},s₁.heap.Ns b m->(cM s₁.heap H).Ns b m:=λ{b m} ⟨o,es,ep,e,d,r⟩=>⟨o,es,ep,base_of e (noA e d),d,r⟩;have hKb:K.In (cM s₁.heap H):=λb o e=>base_of (KX b o e) (by
   cases q:H b with
   |none=>rfl
   |some u=>
    have e':b=a:=hA b (by rw[q];simp);subst e';rw[hK (by rw[q];simp)]at e;cases e)
  have hM:Mod K mg (cM s₁.heap H):=⟨hKb,nsK hns,⟨mb,nsK hb,hbb⟩,let ⟨mc,h1,h2⟩:=hlim;⟨mc,nsK h1,h2⟩⟩;have e0:Env0 P w K mg (cM s₁.heap H) callerA [] s₁ H:=⟨rfl,hM,λb o e=>of_hidT e,Nat.le_of_eq (yjb _ _),trivial,λb hb=>absurd (show b∈([]:List Addr) from hb) (by simp),hok,.of_eq hg⟩;refine codeAny_mono ((F _ hKb (nsK hns)).run callerA [] s₁ H ⟨[.ref a],[]⟩ [.ref a] [.ref a] _ _ hr e0 (hbind s₁ (.ref a)) (.cons rfl .nil) (hsp H hO hS)) λr s' h=>?_;cases r with
  |error e=>exact (hCX H e s' h).elim
  |ok fl=>
   cases fl with
   |next=>exact ĭ h
   |brk=>exact ĭ h
   |cont=>exact ĭ h
   |ret u=>
    obtain ⟨v,H',os,bare,un,hok',r',q⟩:=h;have q':v=.bl true:=q;subst q';obtain rfl:u=ŋ true:=r';refine ⟨rfl,OldK.of_keep λb o e=>?_,os,bare⟩;cases q:H b with
    |none=>exact un.keep b o e q (by intro z;exact absurd (show b∈([]:List Addr) from z) (by simp)) (by simp)
    |some u=>
     rcases hO b with z|⟨ob,xs,z⟩
     ·rw[q]at z;cases z
     ·have z2:=un.frzs b ob _ z;obtain ⟨e1,_⟩:=hok b _ z;obtain ⟨e2,_⟩:=hok' b _ z2;rw[e]at e1;cases e1;exact e2
 cases hk:K.lookup a with
 |some o=>
  -- the script is one of the module's own objects
  have e:=KX a o hk;rw[ha]at e;cases e;refine core (λ_=>none) (λ_=>.inl rfl) (.inr ⟨_,vs.toArray,_,hk,rfl,rfl,rfl,by rw[Ú,lenV];exact hl,by simpa using rv⟩) (λb u z=>by have z':(none:Option HO)=some u:=z;cases z') (λb z=>absurd rfl z) λz=>absurd rfl z
 |none=>
  refine core (λb=>if b=a then some (.frz { cls:=.type "list",data:=.seq vs.toArray } (.lst (ns.map V.int))) else none) (λb=>?_) (.inl (.inr ⟨{ cls:=.type "list",data:=.seq vs.toArray },if_pos rfl⟩)) (λb u z=>?_) (λb z=>?_) λ_=>hk
  ·by_cases hb:b=a
   ·exact .inr ⟨_,_,if_pos hb⟩
   ·exact .inl (if_neg hb)
  ·by_cases hb:b=a
   ·have z':=(if_pos hb).symm.trans z;cases z';subst hb;exact ⟨ha,by rw[Ð];exact hl,vs,_,rv,ha⟩
   ·have z':=(if_neg hb).symm.trans z;cases z'
  ·by_cases hb:b=a
   ·exact hb
   ·exact absurd (if_neg hb) z
theorem walk_of{l:W.OpenLaw}{n k:Nat}{q:Ü}{loose:List Str}{XP:(Str->Option Æ)->Heap->Prop}{YP:ï->Heap->Prop}{d:DefRec}{K:Params->Þ}{CX:ï->CXT}{sp:ï->Sp}{x:Str}
  (hn:l.most=some n) (hn2:n<=Õ) (hdf:d.params.defaults=[]) (hr:Room k callerA)
  (hY:∀(w:ï) (h:Heap),YP w h->(K w.params).In h)
  (F:∀(w:ï) (mg:Str->Option Æ) (fa:Addr) (h:Heap),(K w.params).In h->h.Ns ù mg->mg d.name=some (.ref fa)->
   ∃fd:ů,(∀(s:Ç) (u:Æ),BindsTo s fd ⟨[u],[]⟩ [(x,u)])/\
    ∀base:Heap,(K w.params).In base->base.Ns ù mg->FnOk l.prog w (K w.params) mg base (CX w) k fa fd [x] (sp w))
  (hsp:∀(w:ï) (H:Hp) (a:Addr) (ns:List Int),ns.length<=n->Only H->SqL (K w.params) H a (ns.map V.int)->sp w [.ref a] H (λv _=>v=.bl true) λ_ _ _=>False)
  (hCX:∀(w:ï) (H:Hp) (s:Ç) (e:Æ) (s':Ç),CX w [] H s (λ_ _ _=>False) e s'->False) :
  W.WalkO q loose XP YP l.row.toRowW d [] (λf vs=>PySem.call f vs):=by
 refine Att.attach_call hn hdf λw s₀ s₁ mg mb fa o pm cd doc a vs ns G Y ho hd hcd hmg hobj hints hlen hg=>?_;have KX:=hY w _ Y;obtain ⟨fd,hb,hF⟩:=F w mg fa _ KX G.T.g hmg;exact law_call KX G.T.g G.T.b G.T.builtins G.T.nolimit hg hobj hints (Ğ hlen hn2) hr hF hb (λH hO hS=>hsp w H a ns hlen hO hS) λH e s'=>hCX w H s₁ e s'
noncomputable def qeb(s:Stmt)(j:Nat):Stmt:=match s with
 |.ClassDef _ _ _ body _ _ _ _ _ _ _=>body.getD j (.Pass ⟨0,0,0,0⟩)
 |_=>.Pass ⟨0,0,0,0⟩
noncomputable def dL(s:Stmt):Arguments:=match s with
 |.FunctionDef _ a _ _ _ _ _ _ _ _=>a
 |_=>{ posonlyargs:=[],args:=[],vararg:=none,kwonlyargs:=[],kw_defaults:=[],kwarg:=none,defaults:=[] }
noncomputable def cR(s:Stmt):List Stmt:=match s with
 |.FunctionDef _ _ b _ _ _ _ _ _ _=>b
 |_=>[]
noncomputable def bw(s:Stmt):Scope:=match s with
 |.FunctionDef _ _ _ _ _ _ sc _ _ _=>sc
 |_=>{ kind:=.function,names:=[],isGenerator:=false,isCoroutine:=false }
noncomputable abbrev CX0:CXT:=λ_ _ _ _ _ _=>False
noncomputable abbrev E0:XK:=λ_ _ _=>False
theorem qiq:qcu CX0 X E0:=λ_ _ _ _ _ _ _ h=>h.elim
structure Fun(K:Þ)(x qual:Str)(st:Stmt)(f:Addr)(fd:ů):Prop where
 ex:∃(oc:Æ) (od:Option Addr) (kV doc pm:Æ) (an:Option Addr) (cdv ct:Æ) (osl:Array (Option Æ)),
  fd=W.fnOf x qual (dL st) (cR st) (bw st) .none kV doc pm an cdv ct/\K.lookup f=some ⟨oc,od,.func fd,osl⟩/\W.codeIn K cdv qual=true
 kp:Ξ K (.ref f)=true
section
variable {P:Ü}{w:ï}{K:Þ}{mg:Str->Option Æ}{base:Heap}
theorem Fun.ok{x qual:Str}{st:Stmt}{f:Addr}{fd:ů}{N ps:List Str}{k:Nat}{sp:Sp}(F:Fun K x qual st f fd)(S:FnScope N ps (bw st))(len:∀vs H Q E,sp vs H Q E->vs.length=ps.length)
  (hbody:∀(cdv:Æ) (A:Ā) (outer:List Env) (s:Ç) (H:Hp) (vs:List V) (Q:VK) (E:XK),Room k (A.deeper (envOfC qual (bw st) s.heap.objs.size f cdv))->sp vs H Q E->
   ∃t,PSs (cxOf CX0 P w K mg base N qual (bw st) f cdv A outer s H E).nox (cR st) t/\t { nx:=λ_ H'=>Q .non H',rt:=Q } (eC N vs) H):FnOk P w K mg base CX0 (k+1) f fd ps sp:=by
 obtain ⟨oc,od,kV,doc,pm,an,cdv,ct,osl,rfl,lk,hcd⟩:=F.ex;refine fn_of lk hcd S len λA outer s H vs Q E hr hsp=>?_;obtain ⟨t,h,q⟩:=hbody cdv A outer s H vs Q E hr hsp;exact ⟨t,h.nox,q⟩
theorem Fun.binds{x qual:Str}{st:Stmt}{f:Addr}{fd:ů}{ps:List Str}(F:Fun K x qual st f fd)
  (h:∀(kV doc pm:Æ) (an:Option Addr) (cdv ct:Æ) (us:List Æ),us.length=ps.length->bindArgs (W.fnOf x qual (dL st) (cR st) (bw st) .none kV doc pm an cdv ct) ⟨us,[]⟩=pure (ps.zip us)):dA K fd ps []:=by
 obtain ⟨oc,od,kV,doc,pm,an,cdv,ct,osl,rfl,lk,hcd⟩:=F.ex;exact .all (h kV doc pm an cdv ct)
theorem qg9{x qual:Str}{st:Stmt}{f:Addr}{oc:Æ}{od an:Option Addr}{osl:Array (Option Æ)}{kV doc pm cdv ct:Æ}(l:K.lookup f=some ⟨oc,od,.func (W.fnOf x qual (dL st) (cR st) (bw st) .none kV doc pm an cdv ct),osl⟩)
  (c:W.codeIn K cdv qual=true) (k:Ξ K (.ref f)=true):Fun K x qual st f (W.fnOf x qual (dL st) (cR st) (bw st) .none kV doc pm an cdv ct):=⟨⟨oc,od,kV,doc,pm,an,cdv,ct,osl,rfl,l,c⟩,k⟩
end
theorem fC{A B:Prop}(h:B):if false=true then A else B:=by
 rw[if_neg ú];exact h
theorem fB{A B:Prop}(h:A):if true=true then A else B:=by
 rw[if_pos rfl];exact h
noncomputable def Same(H H':Hp):Prop:=∀b o,H b=some o->H' b=some o
theorem smR(H:Hp):Same H H:=λ_ _ h=>h
section
variable {X:Cx}{pins:List (Addr×Obj)}{σ:St}{H:Hp}{s:Ç}{h':Heap}
theorem Inv.turnedL{ch:List Addr}{a:Addr}{o:HO}{t':Nat}(I:Inv X pins σ H s)(k:∀b u,b∉ch->s.heap.get? b=some u->h'.get? b=some u)(hf:∀b∈ch,FpOk X pins H b)
  (hp:s.heap.objs.size<=a) (new:bh X.prog X.w (upd H a o) h' a o):Inv X pins σ (upd H a o) { s with heap:=h',toks:=t' }:=by
 have hn:H a=none:=I.hok.fresh hp;have nit:∀b u,H b=some u->b∉ch:=λb u e z=>by rw[(hf b z).1]at e;cases e
 refine I.step (g':=s.gens) (d':=s.drawn) (ch:=ch) (λb hb=>?_) (λb u _ _ hc e _=>k b u hc e) (λb u _ _ hc e _=>⟨u.slots,k b u hc e⟩) (λb u _ e n=>?_)
  (λb u hc e=>⟨u,k b u hc e⟩) (λb xs e=>?_) (λb u xs e=>?_) (λb ps e=>⟨#[],?_⟩) (λm hm=>?_) (λb u e=>?_) I.bare
 ·obtain ⟨_,f1,_,f3,f4,f5⟩:=hf b hb;exact ⟨f3,f1,f4,f5⟩
 ·rw[Δ (ĉ (ā (é e) hp))];exact n
 ·rw[Δ (qan e hn)];exact e
 ·rw[Δ (qan e hn)];exact e
 ·rw[Δ (qan e hn),e];simp
 ·obtain ⟨ob,es,ep,ho,r⟩:=hm;exact ⟨ob,es,ep,k _ ob (λz=>(hf _ z).2.1 rfl) ho,r⟩
 ·by_cases hb:b=a
  ·subst hb;rw[bB]at e;cases e;exact new
  ·rw[Δ hb]at e;refine (I.hok b u e).stay (λc v hc q=>k c v ?_ q) (λc q=>by rw[Δ (qan q hn)];exact q) λc xs q=>by rw[Δ (qan q hn)];exact q
   rcases hc with rfl|hc
   ·exact nit _ u e
   ·exact nit c _ hc
end
noncomputable def Ite(K:Þ)(a:Addr):It:=
 ⟨λi H=>∃xs x,SqL K H a xs/\xs[i]?=some x,λi H x H'=>∃p y,H p=none/\x=.ref p/\H'=upd H p (.tup [.int i,y])/\∀xs,SqL K H a xs->xs[i]?=some y,λi H=>∃xs,SqL K H a xs/\xs.length<=i⟩
theorem yjg{P:Ü}{w:ï}{K:Þ}{es:List Expr}{k:Nat}{tp:Pos}(a e it:Addr)(hne:e≠it) :
  Turn P w K (.Tuple es k tp) (Ite K a) [e,it] e (λi h=>(∃old,IsEnum h e it i old)/\h.IsListIter it a i) where
 mem:=by simp
 obj:=λi h st b hb=>by
  obtain ⟨⟨old,he⟩,o,ho,hc,hd⟩:=st;have hb':b=e\/b=it:=by simpa using hb
  rcases hb' with rfl|rfl
  ·exact ⟨_,he,λv z=>by
    have z':Data.fields _=Data.cell v:=z;cases z'⟩
  ·exact ⟨o,ho,λv z=>by rw[hd]at z;cases z⟩
 keep:=λi h h' st kk=>⟨st.1.imp λ_ z=>kk e (by simp) _ z,st.2.at λo z=>kk it (by simp) o z⟩
 item:=by
  intro X hP hw hK hc i pins s σ H E I hf st hg;subst hP hw hK;obtain ⟨xs,x,hq,hx⟩:=hg;obtain ⟨its,rv,p,hz⟩:=I.list hq;obtain ⟨u,hu,ru⟩:=rv.get hx;obtain ⟨⟨old,he⟩,hit⟩:=st;refine wpAny_pyNext_enum_item he hit p.isList (x:=u) (by simpa using hu) hne λh' ho hit' hT hsz hk=>?_;have hel:e<s.heap.objs.size:=é he;have hil:it<s.heap.objs.size:=by obtain ⟨_,z,_⟩:=hit;exact é z
  refine ⟨_,rfl,wpAny_letOwnedTupleGo_enum ho λh2 he2 hs2=>?_⟩;have keep2:∀b ob,b∉[e,it]->s.heap.get? b=some ob->h2.get? b=some ob:=λb ob hb z=>by
   have h1:b≠e:=λq=>hb (by simp[q]);have h3:b≠it:=λq=>hb (by simp[q]);exact (hs2.2 b h1).trans (hk b ob h1 h3 z)
  have hT2:h2.get? s.heap.objs.size=some { cls:=.type "tuple",data:=.seq #[.int i s.toks,u] }:=(hs2.2 _ (ai hel)).trans hT;have fresh:H s.heap.objs.size=none:=I.hok.fresh (Ò _);have new:bh X.prog X.w (upd H s.heap.objs.size (.tup [.int i,x])) h2 s.heap.objs.size (.tup [.int i,x]):=
   ⟨by show 2<=Õ;decide,[.int i s.toks,u],.cons ⟨_,rfl⟩ (.cons ru .nil),⟨_,hT2,rfl,_,rfl⟩⟩
  refine ⟨.ref s.heap.objs.size,upd H s.heap.objs.size (.tup [.int i,x]),I.turnedL keep2 hf (Ò _) new,rfl,⟨_,x,fresh,rfl,rfl,λys hy=>by rw[I.list_inj hy hq];exact hx⟩,⟨⟨_,by simpa using he2⟩,hit'.at λo z=>(hs2.2 it hne.symm).trans z⟩,λb hb=>?_⟩;rw[Δ]
  ·exact (hf b hb).1
  ·have hb':b=e\/b=it:=by simpa using hb
   rcases hb' with rfl|rfl
   ·exact ĉ hel
   ·exact ĉ hil
 done:=by
  intro X hP hw hK hc i pins s σ H E I hf st hg;subst hP hw hK;obtain ⟨xs,hq,hx⟩:=hg;obtain ⟨its,rv,p,hz⟩:=I.list hq;obtain ⟨⟨old,he⟩,hit⟩:=st;have hl:=rv.length;obtain ⟨f0,f1,f2,f3,f4,f5⟩:=hf it (by simp);exact wpAny_pyNext_enum_end (I.ok.hd hc) he hit p.isList (by simp;omega) λh' eb=>⟨rfl,I.turned (t':=s.toks) (λb o hb z=>eb b o hb z) f0 f1 f3 f4 f5⟩
 self:=λ_ _ _ _ _ st h=>wpAny_pyIter_enum st.1.choose_spec h
noncomputable def iEnum(K:Þ)(ta:TA):TI:=λσ H R=>ta σ H λvs H1=>∃a xs,vs=[.ref a]/\SqL K H1 a xs/\R (Ite K a) H1
section
variable {X:Cx}
theorem pi_enum{a:Expr}{ta:TA}{p pos tp:Pos}{es:List Expr}{k:Nat}(hg:Gl X "enumerate")(hm:X.mg "enumerate"=none)(ha:PA X [a] ta)(hs:â [a] X.env=[(false,eval a X.env)]:=by rfl) :
  PI X (.Tuple es k tp) (.Call (.Name "enumerate" p) [a] [] pos) (iEnum X.K ta):=by
 intro pins s σ H R I h;refine Call_ (fq I hg hm boot_enumerate (ċ (thn (ha pos pins s σ H _ I h) λus s1 ⟨vs,H1,I1,r1,q1⟩=>?_) hs rfl));obtain ⟨l,xs,e,hq,q⟩:=q1;subst e;cases r1 with
 |cons r rr=>
  cases rr;cases r;obtain ⟨its,rv,pl,hz⟩:=I1.list hq;refine call_enumerate_list pl.isList λh' he hit hsz hk=>?_;refine wpAny_pyIter_enum he ⟨_,[s1.heap.objs.size+1,s1.heap.objs.size],_,Ite X.K l,H1,rfl,I1.kept (t':=s1.toks) hk,yjg l (s1.heap.objs.size+1) s1.heap.objs.size (Nat.succ_ne_self _),⟨⟨_,he⟩,hit⟩,λb hb=>?_,q⟩;have hb':b=s1.heap.objs.size+1\/b=s1.heap.objs.size:=by simpa using hb
  rcases hb' with rfl|rfl
  ·exact I1.fpOk (le_succ _) (I1.hok.fresh (le_succ _))
  ·exact I1.fpOk (Ò _) (I1.hok.fresh (Ò _))
noncomputable def clOf(cells:List (Str×Addr)):List (Str×Η)->List (Str×Addr)->List (Str×Addr)
 |[],cs=>cs
 | (n,k)::r,cs=>if k=.free then clOf cells r ((n,(cells.lookup n).getD 0)::cs) else clOf cells r cs
theorem qbt(h:∀x∈scope.names,x.2=.free->∃c,env.cells.lookup x.1=some c):closureFor scope env=pure (clOf env.cells scope.names []):=by
 unfold closureFor;generalize hn:scope.names=names at h
 suffices hh:∀(l:List (Str×Η)) (cs:List (Str×Addr)),(∀x∈l,x.2=.free->∃c,env.cells.lookup x.1=some c)->
   (forIn l cs (λ(x:Str×Η) r=>if (x.2 == ă)=true then (do let a <-cellOf env x.1;pure (ForInStep.yield ((x.1,a)::r))) else pure (ForInStep.yield r)):Sem (List (Str×Addr)))=pure (clOf env.cells l cs) by
  have:=hh names [] h;simp only[bind_pure];exact this
 intro l;induction l with
 |nil=>intro cs _;rfl
 |cons x l ih=>
  intro cs hl;obtain ⟨n,k⟩:=x;rw[forIn_cons];by_cases hk:k=.free
  ·subst hk;obtain ⟨c,hc⟩:=hl (n,.free) Ì rfl;have e1:cellOf env n=pure c:=by unfold cellOf;rw[hc]
   have ec:clOf env.cells ((n,ă)::l) cs=clOf env.cells l ((n,c)::cs):=by
    show (if ă=ă then _ else _)=_;rw[if_pos rfl,hc];rfl
   rw[ec];simp only[e1,pure_bind,beq_self_eq_true,if_true];exact ih _ λy hy=>hl y (Ê _ hy)
  ·have hb:(k == ă)=false:=by cases k<;>first|rfl|exact absurd rfl hk
   have ec:clOf env.cells ((n,k)::l) cs=clOf env.cells l cs:=by
    show (if k=ă then _ else _)=_;rw[if_neg hk]
   rw[ec];simp only[hb,pure_bind,Ý,if_false];exact ih _ λy hy=>hl y (Ê _ hy)
theorem qby:∀{l:List (Str×Η)}{cs:List (Str×Addr)},(∀x∈l,x.2=.free->∃c,cells.lookup x.1=some c)->(∀p∈cs,cells.lookup p.1=some p.2)->∀p∈clOf cells l cs,cells.lookup p.1=some p.2
 |[],_,_,h=>h
 | (n,k)::r,cs,hl,h=>by
  unfold clOf;split
  ·rename_i hk
   refine qby (λx hx=>hl x (Ê _ hx)) λp hp=>?_;rcases ñ.mp hp with rfl|hp
   ·obtain ⟨c,hc⟩:=hl (n,k) Ì hk;show cells.lookup n=some ((cells.lookup n).getD 0);have hc':cells.lookup n=some c:=hc;rw[hc'];rfl
   ·exact h p hp
  ·exact qby (λx hx=>hl x (Ê _ hx)) h
theorem qcg{l:List (Str×Addr)}{x:Str}(h:∃c,(x,c)∈l):∃c,l.lookup x=some c:=by
 obtain ⟨c,h⟩:=h;induction l with
 |nil=>cases h
 |cons p r ih=>
  obtain ⟨y,d⟩:=p;by_cases e:(x == y)=true
  ·exact ⟨d,by rw[Ĕ,e]⟩
  ·have e':(x == y)=false:=by simpa using e
   rcases ñ.mp h with q|q
   ·cases q;exact absurd (beq_self_eq_true _) e
   ·obtain ⟨c',z⟩:=ih q;exact ⟨c',by rw[Ĕ,e'];exact z⟩
theorem qc3:∀{l:List (Str×Η)}{cs:List (Str×Addr)},((x,ă)∈l\/∃c,(x,c)∈cs)->∃c,(x,c)∈clOf cells l cs
 |[],_,h=>by
  rcases h with h|h
  ·cases h
  ·exact h
 | (n,k)::r,cs,h=>by
  unfold clOf;split
  ·rename_i hk
   refine qc3 ?_;rcases h with h|⟨c,h⟩
   ·rcases ñ.mp h with q|q
    ·cases q;exact .inr ⟨_,Ì⟩
    ·exact .inl q
   ·exact .inr ⟨c,Ê _ h⟩
  ·rename_i hk
   refine qc3 ?_;rcases h with h|h
   ·rcases ñ.mp h with q|q
    ·cases q;exact absurd rfl hk
    ·exact .inl q
   ·exact .inr h
theorem ycu{env:Env}{x:Str}:∀{l:List (Str×Η)},l.lookup x=some .free->
  (l.map λ(n,k)=>if (k == ă&&env.scope.kind == .function&&env.kindOf n == some .cell) then (n,ŵ) else (n,k)).lookup x=some .cell\/
  (l.map λ(n,k)=>if (k == ă&&env.scope.kind == .function&&env.kindOf n == some .cell) then (n,ŵ) else (n,k)).lookup x=some .free
 |[],h=>by simp at h
 | (n,k)::r,h=>by
  rw[þ];cases hx:x == n with
  |true=>
   rw[Ĕ,hx]at h;cases h;by_cases hc:(ă == ă&&env.scope.kind == .function&&env.kindOf n == some .cell)=true
   ·left;simp only[hc,if_true,Ĕ,hx]
   ·right;simp only[hc,Ý,if_false,Ĕ,hx]
  |false=>
   rw[Ĕ,hx]at h;have ih:=ycu (env:=env) (l:=r) h;by_cases hc:(k == ă&&env.scope.kind == .function&&env.kindOf n == some .cell)=true
   ·simp only[hc,if_true,Ĕ,hx];exact ih
   ·simp only[hc,Ý,if_false,Ĕ,hx];exact ih
theorem qdj{env:Env}{x:Str}:∀{l:List (Str×Η)},(∀y∈l,y.2≠.cell)->
  ((l.map λ(n,k)=>if (k == ă&&env.scope.kind == .function&&env.kindOf n == some .cell) then (n,ŵ) else (n,k)).lookup x=some .cell\/
  (l.map λ(n,k)=>if (k == ă&&env.scope.kind == .function&&env.kindOf n == some .cell) then (n,ŵ) else (n,k)).lookup x=some .free)->(x,ă)∈l
 |[],_,h=>by simp at h
 | (n,k)::r,hn,h=>by
  rw[þ]at h;cases hx:x == n with
  |true=>
   have e:x=n:=by simpa using hx
   subst e;by_cases hc:(k == ă&&env.scope.kind == .function&&env.kindOf x == some .cell)=true
   ·have:k=.free:=by
     simp only[Å,beq_iff_eq]at hc;exact hc.1.1
    subst this;exact Ì
   ·simp only[hc,Ý,if_false,Ĕ,hx,Option.some.injEq]at h;rcases h with h|h
    ·exact absurd h (hn (x,k) Ì)
    ·subst h;exact Ì
  |false=>
   have h':(r.map λ(n,k)=>if (k == ă&&env.scope.kind == .function&&env.kindOf n == some .cell) then (n,ŵ) else (n,k)).lookup x=some .cell\/
     (r.map λ(n,k)=>if (k == ă&&env.scope.kind == .function&&env.kindOf n == some .cell) then (n,ŵ) else (n,k)).lookup x=some .free:=by
    by_cases hc:(k == ă&&env.scope.kind == .function&&env.kindOf n == some .cell)=true
    ·simp only[hc,if_true,Ĕ,hx]at h;exact h
    ·simp only[hc,Ý,if_false,Ĕ,hx]at h;exact h
   exact Ê _ (qdj (λy hy=>hn y (Ê _ hy)) h')
noncomputable def bn(X:Cx)(M:List Str)(scope:Scope)(C:Addr)(fp:List Addr)(s2:Ç)(H2:Hp):Cx:=
 {prog:=X.prog,w:=X.w,K:=X.K,mg:=X.mg,base:=X.base,A:=X.A,N:=M,s₀:=s2,H₀:=H2,env:=compEnvC scope (clOf X.env.cells scope.names []) C X.env,
  outer:=X.stack,stack:=X.stack,ex:=fp,fn:=λ_=>false,calm:=X.calm,pn:=[],xe:=λ_ _=>False }
noncomputable def Λ(ix:List (Option Nat))(σ:St):St:=ix.map λo=>match o with
 |none=>none
 |some j=>(σ[j]?).getD none
structure CompOk(N M:List Str)(ix:List (Option Nat))(sc xs:Scope):Prop where
 kind:sc.kind=.function
 len:M.length=ix.length
 nocell:∀y∈sc.names,y.2≠.cell
 loc:∀y∈sc.names,y.2=.local->sc.names.lookup y.1=some .local
 fr:∀y∈sc.names,y.2=.free->xs.names.lookup y.1=some .cell\/xs.names.lookup y.1=some .free
 cap:∀(i:Nat) (j:Nat),ix[i]?=some (some j)->∃x,M[i]?=some x/\N[j]?=some x/\sc.names.lookup x=some .free
noncomputable def qgj(N M:List Str)(ix:List (Option Nat))(sc xs:Scope):Bool:=
 decide (sc.kind=.function)&&decide (M.length=ix.length)&&sc.names.all (λy=>decide (y.2≠.cell))&&sc.names.all (λy=>decide (y.2≠.local)||decide (sc.names.lookup y.1=some .local)) &&
 sc.names.all (λy=>decide (y.2≠.free)||decide (xs.names.lookup y.1=some .cell)||decide (xs.names.lookup y.1=some .free)) &&
 (õ ix.length).all (λi=>match ix[i]? with
  |some (some j)=>match M[i]? with
   |some x=>decide (N[j]?=some x)&&decide (sc.names.lookup x=some .free)
   |none=>false
  |_=>true)
theorem qi5(h:qgj N M ix sc xs=true):CompOk N M ix sc xs:=by
 unfold qgj at h;simp only[Å,Û,decide_eq_true_eq,τ]at h;obtain ⟨⟨⟨⟨⟨h1,h2⟩,h3⟩,h4⟩,h5⟩,h6⟩:=h;refine ⟨h1,h2,h3,λy hy e=>?_,λy hy e=>?_,λi j e=>?_⟩
 ·rcases h4 y hy with q|q
  ·exact absurd e q
  ·exact q
 ·rcases h5 y hy with (q|q)|q
  ·exact absurd e q
  ·exact .inl q
  ·exact .inr q
 ·have hi:i<ix.length:=(É.mp e).1;have q:=h6 i (mem_range.mpr hi);rw[e]at q;cases hm:M[i]? with
  |none=>rw[hm]at q;cases q
  |some x=>
   rw[hm]at q;simp only[Å,decide_eq_true_eq]at q;exact ⟨x,rfl,q.1,q.2⟩
noncomputable def PTs(X:Cx)(ifs:List Expr)(t:TT):Prop:=
 ∀(pins:List (Addr×Obj)) (s:Ç) (σ:St) (H:Hp) (Q:Bool->Hp->Prop),Inv X pins σ H s->t σ H Q->
  Ë (model X.prog X.w) X.A (forIn ifs true λc r=>if r=true then do let ok <-isTrue c X.env (eval c X.env);pure (ForInStep.yield ok) else pure (ForInStep.yield r)) (TP X pins σ Q) X.xe s
noncomputable def tYes:TT:=λ_ H Q=>Q true H
theorem pts_nil:PTs X [] tYes:=λ_ _ _ H _ I h=>wpAny_tests_nil ⟨H,I,h⟩
theorem pts_one(h:PT X c t):PTs X [c] t:=λpins s σ H Q I hq=>wpAny_tests_one (h pins s σ H Q I hq)
end
theorem Un.butNew(u:Un fs ex H H' h h1)(hC:h.objs.size<=C)(sb:ü C h1 h2):Un fs ex H H' h h2:=by
 have ne:∀b o,h.get? b=some o->b≠C:=λb o e=>ĉ (ā (é e) hC);refine ⟨λb o e n h3 h4=>(sb.2 b (ne b o e)).trans (u.keep b o e n h3 h4),λb o e n h3 h4=>?_,u.free,λb o e h4=>?_,u.tups,u.frzs,u.tbls⟩
 ·obtain ⟨sl,q⟩:=u.slot b o e n h3 h4;exact ⟨sl,(sb.2 b (ne b o e)).trans q⟩
 ·obtain ⟨o',q⟩:=u.there b o e h4;exact ⟨o',(sb.2 b (ne b o e)).trans q⟩
section
variable {X:Cx}{pins:List (Addr×Obj)}{σ:St}{H2:Hp}{s2:Ç}{M:List Str}{ix:List (Option Nat)}{scope:Scope}{fp:List Addr}
theorem comp_ok{C:Addr}(I:Inv X pins σ H2 s2)(ck:CompOk X.N M ix scope X.env.scope)(hC:s2.heap.objs.size<=C)(f2:∀b∈fp,FpOk X pins H2 b)(hfp:∀b∈fp,b<s2.heap.objs.size):(bn X M scope C fp s2 H2).Ok:=by
 have hfree:∀x∈scope.names,x.2=.free->∃c,X.env.cells.lookup x.1=some c:=λx hx e=>I.ok.has x.1 (ck.fr x hx e);have snd:∀x c,(clOf X.env.cells scope.names []).lookup x=some c->X.env.cells.lookup x=some c:=λx c e=>qby (cs:=[]) hfree (by intro p hp;cases hp) (x,c) (ĝ e);refine ⟨I.ok.mod,ck.kind,I.ok.glob,I.ok.blt,hC,λx y c h1 h2=>I.ok.inj x y c (snd x c h1) (snd y c h2),λx hx=>?_,(by intro x c h;cases h),I.ok.hd,I.ok.frames,.inl rfl,λb hb=>⟨?_,λx c e=>?_⟩,λb o e=>I.bs b o e,
  Ğ I.ok.bsz I.sz,λb o e hb=>?_,λb hb hb2=>?_,I.stack,I.stkFree⟩
 ·exact qcg (qc3 (.inl (qdj ck.nocell hx)))
 ·exact ĉ (ā (hfp b hb) hC)
 ·exact (f2 b hb).2.2.2.2.1 x c (snd x c e)
 ·rcases (f2 b hb).2.2.2.1 with z|z
  ·exact I.ok.noex b o e z
  ·exact absurd (ā (é e) (Ğ I.ok.bsz z)) (ο _)
 ·obtain ⟨_,n1,n2,_⟩:=f2 b hb;rcases ñ.mp (I.stkSub b hb2) with z|z
  ·exact n1 z
  ·exact n2 z
theorem comp_inv{C D:Addr}{h1:Heap}{tk:Nat}(I:Inv X pins σ H2 s2)(ck:CompOk X.N M ix scope X.env.scope)(hC:s2.heap.objs.size<=C)(hD:s2.heap.objs.size<=D)(hDC:C≠D)(f2:∀b∈fp,FpOk X pins H2 b)(hfp:∀b∈fp,b<s2.heap.objs.size)
  (old:∀b o,s2.heap.get? b=some o->h1.get? b=some o) (hn:h1.Ns C λ_=>none) (hnew:h1.get? D=some { cls:=.type "list",data:=.seq #[] }) :
  Inv (bn X M scope C fp s2 H2) [] (Λ ix σ) (upd H2 D (.lst [])) { s2 with heap:=h1,toks:=tk }:=by
 have hfree:∀x∈scope.names,x.2=.free->∃c,X.env.cells.lookup x.1=some c:=λx hx e=>I.ok.has x.1 (ck.fr x hx e);have snd:∀x c,(clOf X.env.cells scope.names []).lookup x=some c->X.env.cells.lookup x=some c:=λx c e=>qby (cs:=[]) hfree (by intro p hp;cases hp) (x,c) (ĝ e);have fD:H2 D=none:=I.hok.fresh hD;refine ⟨comp_ok I ck hC f2 hfp,rfl,I.bare,Un.laid old hD fD,⟨_,hn,λi x v e1 e2 e3=>?_⟩,λx c e=>?_,?_,λx c e=>?_,(by intro p hp;cases hp),I.hok.laid (o:=.lst []) old hD ⟨ķ _,[],0,.nil,hnew⟩,?_⟩
 ·obtain ⟨j,hj,hv⟩:∃j,ix[i]?=some (some j)/\σ[j]?=some (some v):=by
   unfold Λ at e2;rw[Ĉ]at e2;cases q:ix[i]? with
   |none=>rw[q]at e2;cases e2
   |some o=>
    rw[q]at e2;cases o with
    |none=>cases e2
    |some j=>
     refine ⟨j,rfl,?_⟩;have e2':(σ[j]?).getD none=some v:=ď e2;cases z:σ[j]? with
     |none=>rw[z]at e2';cases e2'
     |some y=>rw[z]at e2';rw[show y=some v from e2']
  obtain ⟨y,hm,hN,hf⟩:=ck.cap i j hj;have e1':M[i]?=some x:=e1;rw[hm]at e1';cases e1';obtain ⟨m,hnl,hl⟩:=I.loc;have hmem:(x,ă)∈scope.names:=ĝ hf;have hk:=ck.fr _ hmem rfl;obtain ⟨u,ru,lk⟩:=hl j x v hN hv (hk.elim (λz=>.inr (.inl z)) λz=>.inr (.inr z));refine ⟨u,ru,.inr ⟨ycu hf,?_⟩⟩;rcases lk with ⟨kl,_⟩|⟨_,c,hc,hcell⟩
  ·have kl':X.env.scope.names.lookup x=some .local:=kl;rcases hk with z|z
   ·rw[z]at kl';cases kl'
   ·rw[z]at kl';cases kl'
  ·obtain ⟨c2,h2⟩:=qcg (qc3 (cells:=X.env.cells) (cs:=[]) (.inl hmem));have h3:=snd x c2 h2;rw[hc]at h3;cases h3;obtain ⟨o,ho,hd⟩:=hcell;exact ⟨c,h2,o,old c o ho,hd⟩
 ·obtain ⟨v,o,ho,hd⟩:=I.cell x c (snd x c e);exact ⟨v,o,old c o ho,hd⟩
 ·show upd H2 D (.lst []) C=none;rw[Δ hDC];exact I.hok.fresh hC
 ·show upd H2 D (.lst []) c=none;obtain ⟨v,z⟩:=I.cell x c (snd x c e);rw[Δ (ĉ (ā z.lt hD))];exact I.freeC x c (snd x c e)
 ·show (Λ ix σ).length=M.length;unfold Λ;rw[Ð,ck.len]
theorem yih(I:Inv X pins σ H2 s2)(J:Inv (bn X M scope C fp s2 H2) pl σ' H' s')(f2:∀b∈fp,FpOk X pins H2 b)(sb:ü C s'.heap h2):Inv X pins σ H' { s' with heap:=h2 }:=by
 have hC:s2.heap.objs.size<=C:=J.ok.above;refine I.call' (s':={ s' with heap:=h2 }) (ch:=fp) J.os (Un.butNew J.base hC sb) (λa o e=>?_) J.bare λb hb=>?_
 ·have fr:H' C=none:=J.free;refine (J.hok a o e).stay (λc v hc q=>(sb.2 c ?_).trans q) (λ_ q=>q) λ_ _ q=>q;rintro rfl;rcases hc with z|z
  ·rw[<-z,fr]at e;cases e
  ·rw[fr]at z;cases z
 ·obtain ⟨_,n1,_,n3,n4,n5⟩:=f2 b hb;exact ⟨n3,n1,n4,n5⟩
end
noncomputable def qik(l l':St):Prop:=l'.length=l.length/\∀(i:Nat) (v:V),l[i]?=some (some v)->l'[i]?=some (some v)
noncomputable def tComp(wi:TI)(ix:List (Option Nat))(g:TG)(tt:TT)(te:TE):TE:=λσ H Q=>wi σ H λJ H1=>∀D,H1 D=none->∃W:Nat->Nat->Hp->Prop,(∃m,W 0 m (upd H1 D (.lst [])))/\∀i m H,W i m H->
 (J.stop i H/\Q (.ref D) H)\/(J.go i H/\∃N:Hp->Prop,(∀H',N H'->∃m',m' < m/\W (i+1) m' H')/\∀x H',J.yld i H x H'->g x (Λ ix σ) H' λσ2 H2=>qik (Λ ix σ) σ2/\tt σ2 H2 λb H3=>
  if b=true then te σ2 H3 λv H4=>∃ys,H4 D=some (.lst ys)/\ys.length<Õ/\N (upd H4 D (.lst (ys++[v]))) else N H3)
section
variable {X:Cx}{elt tg iter:Expr}{ifs:List Expr}{scope:Scope}{pos:Pos}{wi:TI}{g:TG}{tt:TT}{te:TE}{M:List Str}{ix:List (Option Nat)}
theorem qiu{pins:List (Addr×Obj)}{σ:St}{H2 H4:Hp}{s2 s4:Ç}{fp:List Addr}{it C D:Addr}{tn:Nat->Heap->Prop}{J:It}{R:Result->Ç->Prop}{QD:Hp->Prop}(I2:Inv X pins σ H2 s2)(hc:X.calm=true)
  (f2:∀b∈fp,FpOk X pins H2 b) (T:Turn X.prog X.w X.K tg J fp it tn)
  (hg:PG (bn X M scope C fp s2 H2) tg g) (ht:PTs (bn X M scope C fp s2 H2) ifs tt) (he:PE (bn X M scope C fp s2 H2) elt te)
  (I4:Inv (bn X M scope C fp s2 H2) [] (Λ ix σ) H4 s4) (st4:tn 0 s4.heap) (fr4:∀b∈fp,H4 b=none) (W:Nat->Nat->Hp->Prop) (m0:Nat) (w0:W 0 m0 H4)
  (turn:∀i m H,W i m H->(J.stop i H/\QD H)\/(J.go i H/\∃N:Hp->Prop,(∀H',N H'->∃m',m' < m/\W (i+1) m' H')/\∀x H',J.yld i H x H'->g x (Λ ix σ) H' λσ2 H2=>qik (Λ ix σ) σ2/\tt σ2 H2 λb H3=>
   if b=true then te σ2 H3 λv H4=>∃ys,H4 D=some (.lst ys)/\ys.length<Õ/\N (upd H4 D (.lst (ys++[v]))) else N H3))
  (fin:∀H' s',Inv (bn X M scope C fp s2 H2) [] (Λ ix σ) H' s'->QD H'->R (.ok .next) s') :
  ag (model X.prog X.w) X.A (.compLoop (.ListComp elt [⟨tg,iter,ifs,0⟩] scope pos) 0 (.ref it) (.ref D) (compEnvC scope (clOf X.env.cells scope.names []) C X.env)) R s4:=by
 have stat:∀{H':Hp},(∀b∈fp,H' b=none)->∀b∈fp,FpOk (bn X M scope C fp s2 H2) [] H' b:=λ{H'} hn b hb=>
  ⟨hn b hb,(I4.ok.exf b hb).1,I4.ok.exfs b hb,.inl hb,(I4.ok.exf b hb).2,by intro p hp;cases hp⟩
 refine codeAny_loop rfl (λn s'=>∃i H',Inv (bn X M scope C fp s2 H2) [] (Λ ix σ) H' s'/\tn i s'.heap/\(∀b∈fp,H' b=none)/\W i n H') ?_ m0 ⟨0,H4,I4,st4,fr4,w0⟩;rintro n s5 ⟨i,H5,I5,st5,fr5,w5⟩;show Ë (model X.prog X.w) X.A ((compTurn (.ListComp elt [⟨tg,iter,ifs,0⟩] scope pos) 0 (.ref it) (.ref D) (compEnvC scope (clOf X.env.cells scope.names []) C X.env)).onRaise (λx=>do noteFrame x (compEnvC scope (clOf X.env.cells scope.names []) C X.env);theTreesLotGoes x)) _ _ s5;refine wpAny_noted ?_;rw[compTurn_list];refine À (wpAny_standAt (À ?_));rcases turn i n H5 w5 with ⟨stop,qn⟩|⟨go,N,hN,step⟩
 ·refine thn (T.done (bn X M scope C fp s2 H2) rfl rfl rfl hc i [] s5 (Λ ix σ) H5 _ I5 (stat fr5) st5 stop) λr s6 ⟨hr,I6⟩=>?_;subst hr;exact Ã (fin H5 s6 I6 qn)
 ·refine thn (T.item (bn X M scope C fp s2 H2) rfl rfl rfl hc i [] s5 (Λ ix σ) H5 _ I5 (stat fr5) st5 go) λr s6 ⟨u,hr,h6⟩=>?_;subst hr;refine À (thn h6 λ_ s7 ⟨x,H7,I7,r7,y7,st7,fr7⟩=>?_);have I7':=I7.pinned (stat fr7) (T.obj _ _ st7);refine À (Ň (hg _ s7 (Λ ix σ) H7 x u _ I7' r7 (step x H7 y7)) (λ_ s8 ⟨σ8,H8,I8,k8,q8⟩=>?_) λ_ _ z=>ĭ z);refine À (Ň (ht _ s8 σ8 H8 _ I8 q8) (λok s9 ⟨H9,I9,q9⟩=>?_) λ_ _ z=>ĭ z);have again:∀{Ha:Hp}{sa:Ç},Inv (bn X M scope C fp s2 H2) ([]++qe1 fp s7.heap) σ8 Ha sa->N Ha->∃m,m<n/\∃i H',Inv (bn X M scope C fp s2 H2) [] (Λ ix σ) H' sa/\tn i sa.heap/\(∀b∈fp,H' b=none)/\W i m H':=λ{Ha sa} Ia na=>by
   obtain ⟨m',hm,wa⟩:=hN Ha na;refine ⟨m',hm,i+1,Ha,Ia.unpinned.weak k8.1.symm k8.2,T.keep _ _ _ st7 λb hb o e=>(Ia.pin (b,o) (ġ _ (ġ _ (qbx hb e)))).1,λb hb=>?_,wa⟩;obtain ⟨o,e,d⟩:=T.obj _ _ st7 b hb;exact (Ia.pin (b,o) (ġ _ (ġ _ (qbx hb e)))).2.1
  cases ok with
  |false=>exact Ã ⟨rfl,again I9 q9⟩
  |true=>
   refine À (À (Ň (he _ s9 σ8 H9 _ I9 q9) (λxv s10 ⟨v,H10,I10,r10,ys,hD,hl,q10⟩=>?_) λ_ _ z=>ĭ z));refine À (Ň (qfe (X:=bn X M scope C fp s2 H2) _ s10 σ8 H10 (.ref D) [v] (.ref D) [xv] (λ_ H'=>N H') I10 rfl (.cons r10 .nil) ⟨D,ys,v,rfl,rfl,hD,hl,q10⟩) (λ_ s11 ⟨_,H11,I11,_,q11⟩=>?_) λ_ _ z=>ĭ z);exact Ã (Ã ⟨rfl,again I11 q11⟩)
theorem qd2{pins:List (Addr×Obj)}{σ:St}{H2:Hp}{s2:Ç}{fp:List Addr}{it:Addr}{tn:Nat->Heap->Prop}{J:It}{E:Æ->Ç->Prop}{QD:Addr->Hp->Prop}{RR:Æ->Addr->Result->Ç->Prop}(I2:Inv X pins σ H2 s2)(hc:X.calm=true)
  (ck:CompOk X.N M ix scope X.env.scope) (f2:∀b∈fp,FpOk X pins H2 b) (T:Turn X.prog X.w X.K tg J fp it tn) (st2:tn 0 s2.heap)
  (hg:∀C fp s2 H2,PG (bn X M scope C fp s2 H2) tg g) (ht:∀C fp s2 H2,PTs (bn X M scope C fp s2 H2) ifs tt) (he:∀C fp s2 H2,PE (bn X M scope C fp s2 H2) elt te)
  (rd:∀D,H2 D=none->∃W:Nat->Nat->Hp->Prop,(∃m,W 0 m (upd H2 D (.lst [])))/\∀i m H,W i m H->
   (J.stop i H/\QD D H)\/(J.go i H/\∃N:Hp->Prop,(∀H',N H'->∃m',m' < m/\W (i+1) m' H')/\∀x H',J.yld i H x H'->g x (Λ ix σ) H' λσ2 H2=>qik (Λ ix σ) σ2/\tt σ2 H2 λb H3=>
    if b=true then te σ2 H3 λv H4=>∃ys,H4 D=some (.lst ys)/\ys.length<Õ/\N (upd H4 D (.lst (ys++[v]))) else N H3))
  (fin:∀D C H' s',QD D H'->(∃m,s'.heap.Ns C m)->(∀h2,ü C s'.heap h2->Inv X pins σ H' { s' with heap:=h2 })->FpOk X pins H' C->RR (.ref D) C (.ok .next) s') :
  Ë (model X.prog X.w) X.A (newList []) (λacc s3=>Ë (model X.prog X.w) X.A (newFunctionEnv scope X.env.globals (clOf X.env.cells scope.names []) [] X.env.qual none .none (some X.env)) (λcenv s4=>
   ag (model X.prog X.w) X.A (.compStart (.ListComp elt [⟨tg,iter,ifs,0⟩] scope pos) 0 (.ref it) acc { cenv with scope:=relabel scope X.env }) (RR acc cenv.locals) s4) E s3) E s2:=by
 have hfp:∀b∈fp,b<s2.heap.objs.size:=λb hb=>by obtain ⟨o,e,_⟩:=T.obj 0 _ st2 b hb;exact é e
 refine Ą (wpAny_newFunctionEnv ck.nocell (by intro y hy;simp at hy) (λh1 hn1 hsb1=>?_) ck.kind);dsimp only at hn1 hsb1 ⊢;generalize hP:s2.heap.push { cls:=.type "list",dict:=none,data:=.seq ([]:List Æ).toArray }=hh at hn1 hsb1 ⊢;have hCz:hh.objs.size=s2.heap.objs.size+1:=by rw[<-hP,Ŀ]
 have hCD:hh.objs.size≠s2.heap.objs.size:=by omega
 have old:∀b o,s2.heap.get? b=some o->h1.get? b=some o:=λb o e=>by
  have hb:b<s2.heap.objs.size:=é e;exact hsb1.extBut b o (ĉ (by rw[hCz];exact ű hb)) (È _ (hP ▸ È _ e))
 have hnew:h1.get? s2.heap.objs.size=some { cls:=.type "list",data:=.seq #[] }:=hsb1.extBut _ _ hCD.symm (È _ (hP ▸ Ô _ rfl));obtain ⟨W,⟨m0,w0⟩,turn⟩:=rd s2.heap.objs.size (I2.hok.fresh (Ò _));have I4:=comp_inv (M:=M) (ix:=ix) (scope:=scope) (fp:=fp) (tk:=s2.toks+([]:List (Str×Æ)).length) I2 ck (C:=hh.objs.size) (D:=s2.heap.objs.size) (by omega) (Ò _) hCD f2 hfp old hn1 hnew;have st4:tn 0 h1:=T.keep _ _ _ st2 λb _ o e=>old b o e;have fr4:∀b∈fp,upd H2 s2.heap.objs.size (.lst []) b=none:=λb hb=>by rw[Δ (ĉ (hfp b hb))];exact (f2 b hb).1
 have lp:ag (model X.prog X.w) X.A (.compLoop (.ListComp elt [⟨tg,iter,ifs,0⟩] scope pos) 0 (.ref it) (.ref s2.heap.objs.size) (compEnvC scope (clOf X.env.cells scope.names []) hh.objs.size X.env)) (RR (.ref s2.heap.objs.size) hh.objs.size) { s2 with heap:=h1,toks:=s2.toks+([]:List (Str×Æ)).length }:=by
  refine qiu (QD:=QD s2.heap.objs.size) I2 hc f2 T (hg _ _ _ _) (ht _ _ _ _) (he _ _ _ _) I4 st4 fr4 W m0 w0 turn λH' s' J' q'=>?_;obtain ⟨m,hm,_⟩:=J'.loc;exact fin _ _ H' s' q' ⟨m,hm⟩ (λh2 sb=>yih I2 J' f2 sb) (I2.fpOk (by omega) J'.free)
 exact codeAny_compStart_list lp (T.self _ 0 _ _ _ st4 lp)
theorem pe_comp(hc:X.calm=true)(ck:CompOk X.N M ix scope X.env.scope)(hi:PI X tg iter wi)(hg:∀C fp s2 H2,PG (bn X M scope C fp s2 H2) tg g)(ht:∀C fp s2 H2,PTs (bn X M scope C fp s2 H2) ifs tt)(he:∀C fp s2 H2,PE (bn X M scope C fp s2 H2) elt te)
  (hs:∀x,foldedSetIterable iter X.env x=pure x:=by intro _;rfl):PE X (.ListComp elt [⟨tg,iter,ifs,0⟩] scope pos) (tComp wi ix g tt te):=by
 intro pins s σ H Q I h;have hfree:∀x∈scope.names,x.2=.free->∃c,X.env.cells.lookup x.1=some c:=λx hx e=>I.ok.has x.1 (ck.fr x hx e);rw[eval_ListComp];refine wpAny_comprehension_free (use:=none) (cl:=clOf X.env.cells scope.names []) rfl hs (qbt hfree) ck.kind ck.loc (thn (hi pins s σ H _ I h) λv s1 h1=>thn h1 λitv s2 h2=>?_);obtain ⟨it,fp,tn,J,H2,e,I2,T,st2,f2,rd⟩:=h2;subst e;refine qd2 (QD:=λD H'=>Q (.ref D) H') I2 hc ck f2 T st2 hg ht he rd λD C H' s' q hm hb _=>?_;obtain ⟨m,hm⟩:=hm;exact ⟨m,hm,λh2 sb=>⟨.ref D,H',hb h2 sb,rfl,q⟩⟩
noncomputable def tCompSet(wi:TI)(ix:List (Option Nat))(g:TG)(tt:TT)(te:TE)(i:Nat):TS:=λD σ H=>tComp wi ix g tt te σ H λx H1=>D.nx (σ.set i (some x)) H1
theorem ps_setC{i:Nat}{x:Str}{pos' spos:Pos}(hsw:swapsWith (.ListComp elt [⟨tg,iter,ifs,0⟩] scope pos) (some (.Name x pos')) spos.line X.env=pure true)(hN:X.N.Nodup)(hix:X.N[i]?=some x)(hx:Loc X.env.scope x)
  (hc:X.calm=true) (ck:CompOk X.N M ix scope X.env.scope) (hi:PI X tg iter wi) (hg:∀C fp s2 H2,PG (bn X M scope C fp s2 H2) tg g) (ht:∀C fp s2 H2,PTs (bn X M scope C fp s2 H2) ifs tt) (he:∀C fp s2 H2,PE (bn X M scope C fp s2 H2) elt te)
  (hs:∀x,foldedSetIterable iter X.env x=pure x:=by intro _;rfl) (hf:X.fn x=true\/X.env.scope.names.lookup x=some .local:=by first|exact .inl rfl|exact .inr rfl|assumption) :
  PS X (.Assign [.Name x pos'] (.ListComp elt [⟨tg,iter,ifs,0⟩] scope pos) spos) (tCompSet wi ix g tt te i):=by
 intro pins s σ H D0 I h;have hfree:∀x∈scope.names,x.2=.free->∃c,X.env.cells.lookup x.1=some c:=λx hx e=>I.ok.has x.1 (ck.fr x hx e);rw[exec_Assign_Name_used _ _ _ _ hsw];refine À (wpAny_standAt (À ?_));show Ë _ X.A (do let _ <-comprehension (.ListComp elt [⟨tg,iter,ifs,0⟩] scope pos) scope X.env _ (newList []) false (eval iter X.env) (some (assign (.Name x pos') X.env))) _ _ s;refine À (Ň (wpAny_comprehension_free (use:=some (assign (.Name x pos') X.env)) (Q:=λ_ s'=>SP X pins D0 .next s') (cl:=clOf X.env.cells scope.names []) rfl hs (qbt hfree) ck.kind ck.loc
  (thn (hi pins s σ H _ I h) λv s1 h1=>thn h1 λitv s2 h2=>?_)) (λ_ s' hq=>Ã (Ã hq)) λ_ _ e=>e)
 obtain ⟨it,fp,tn,J,H2,e,I2,T,st2,f2,rd⟩:=h2;subst e;refine qd2 (QD:=λD H'=>D0.nx (σ.set i (some (.ref D))) H') I2 hc ck f2 T st2 hg ht he rd λD C H' s' q hm hb fpk=>?_;obtain ⟨m,hm⟩:=hm;obtain ⟨g0,g1,g2,g3,g4,g5⟩:=fpk;have I5:Inv X pins σ H' s':=hb s'.heap ⟨rfl,λ_ _=>rfl⟩;show Ë (model X.prog X.w) X.A (assign (.Name x pos') X.env (.ref D)) _ _ s';refine wpAny_assign_Name (qe3 (v:=.ref D) I5 hN hix hx rfl (λs6 I6 ⟨a,sb,ha⟩=>?_) hf);have hCa:C≠a:=by
  rcases ha with ha|ha
  ·rw[ha];exact g1
  ·exact (g4 x a ha).symm
 refine ⟨m,hm.sameBut sb hCa,λh2 sb2=>⟨_,H',I6.turned (t':=s6.toks) (λb o hb e=>(sb2.2 b hb).trans e) g0 g1 g3 g4 g5,q⟩⟩
end
noncomputable def FnAt(K:Þ)(mg:Str->Option Æ)(x:Str)(st:Stmt)(ps:List Str):Prop:=∃f fd,mg x=some (.ref f)/\Fun K x x st f fd/\dA K fd ps []
noncomputable def Has(P:Ü)(w:ï)(K:Þ)(mg:Str->Option Æ)(base:Heap)(k:Nat)(x:Str)(ps:List Str)(sp:Sp):Prop:=
 ∃f fd,mg x=some (.ref f)/\Ξ K (.ref f)=true/\dA K fd ps []/\FnOk P w K mg base CX0 k f fd ps sp
section
variable {P:Ü}{w:ï}{K:Þ}{mg:Str->Option Æ}{base:Heap}
theorem Has.of{x:Str}{st:Stmt}{ps N:List Str}{k:Nat}{sp:Sp}(F:FnAt K mg x st ps)(S:FnScope N ps (bw st))(len:∀vs H Q E,sp vs H Q E->vs.length=ps.length)
  (hbody:∀(f:Addr) (cdv:Æ) (A:Ā) (outer:List Env) (s:Ç) (H:Hp) (vs:List V) (Q:VK) (E:XK),Room k (A.deeper (envOfC x (bw st) s.heap.objs.size f cdv))->sp vs H Q E->
   ∃t,PSs (cxOf CX0 P w K mg base N x (bw st) f cdv A outer s H E).nox (cR st) t/\t { nx:=λ_ H'=>Q .non H',rt:=Q } (eC N vs) H):Has P w K mg base (k+1) x ps sp:=by
 obtain ⟨f,fd,h1,h2,h3⟩:=F;exact ⟨f,fd,h1,h2.kp,h3,h2.ok S len λcdv A outer s H vs Q E hr h=>hbody f cdv A outer s H vs Q E hr h⟩
theorem Has.imp(h:Has P w K mg base k x ps sp)(i:∀vs H Q E,sp' vs H Q E->sp vs H Q E):Has P w K mg base k x ps sp':=by
 obtain ⟨f,fd,h1,h2,h3,h4⟩:=h;exact ⟨f,fd,h1,h2,h3,h4.imp i⟩
end
section
variable {X:Cx}
theorem pe_callH(h:Has X.prog X.w X.K X.mg X.base k x ps sp)(hr:Room m X.A)(ha:PA X (e::es) t)(hk:k<=m:=by decide)(hg:Gl X x:=by rfl)
  (hdb:(x == ("__debug__" : Str))=false:=by decide) (he:â (e::es) X.env=(false,eval e X.env)::â es X.env:=by rfl) (hpl:(ľ pos (â es X.env)).any (·.1)=false:=by rfl) :
  PE X (.Call (.Name x p) (e::es) [] pos) (tCall sp [] E0 t):=by
 obtain ⟨f,fd,h1,h2,h3,h4⟩:=h;exact pe_call h4 (hr.mono hk) hg h1 h2 h3 .nil qiq ha hdb he hpl
noncomputable def rIsi(K:Þ):List V->Hp->VK->Prop:=λxs H Q=>∃x T t b,xs=[x,.ty T]/\TyOf K H x t/\W.kitOne K t (.type T)=some b/\Q (.bl b) H
theorem call_isi:bH X (.builtin "isinstance") (rIsi X.K):=by
 intro pins s σ H xs us Q I r h;obtain ⟨x,T,t,b,rfl,ht,hk,q⟩:=h;cases r with
 |cons r rr=>
  cases rr with
  |cons r' rr=>
   cases rr;cases r';exact qji I r ht hk λtk=>⟨.bl b,H,I.tok _,rfl,q⟩
end
theorem qf7(h:n<=100000):n<=Õ:=Ğ h (by decide)
theorem comp_by{J:It}{n:Nat}{g:TG}{tt:TT}{te:TE}{ix:List (Option Nat)}{σ:St}{H:Hp}{QD:Hp->Prop}{D:Addr}(Pv:Nat->Hp->Prop)(h0:Pv 0 (upd H D (.lst [])))(stop:∀H',Pv n H'->J.stop n H'/\QD H')
  (step:∀i H',i<n->Pv i H'->J.go i H'/\∀x H2,J.yld i H' x H2->g x (Λ ix σ) H2 λσ2 H3=>qik (Λ ix σ) σ2/\tt σ2 H3 λb H4=>
   if b=true then te σ2 H4 λv H5=>∃ys,H5 D=some (.lst ys)/\ys.length<Õ/\Pv (i+1) (upd H5 D (.lst (ys++[v]))) else Pv (i+1) H4) :
  ∃W:Nat->Nat->Hp->Prop,(∃m,W 0 m (upd H D (.lst [])))/\∀i m H,W i m H->
   (J.stop i H/\QD H)\/(J.go i H/\∃N:Hp->Prop,(∀H',N H'->∃m',m' < m/\W (i+1) m' H')/\∀x H',J.yld i H x H'->g x (Λ ix σ) H' λσ2 H2=>qik (Λ ix σ) σ2/\tt σ2 H2 λb H3=>
    if b=true then te σ2 H3 λv H4=>∃ys,H4 D=some (.lst ys)/\ys.length<Õ/\N (upd H4 D (.lst (ys++[v]))) else N H3):=by
 refine ⟨λi m H=>m=n-i/\i<=n/\Pv i H,⟨n,by simp,ķ _,h0⟩,?_⟩;rintro i m H ⟨rfl,hi,p⟩;by_cases hlt:i<n
 ·obtain ⟨g1,g2⟩:=step i H hlt p;exact .inr ⟨g1,Pv (i+1),λH' p'=>⟨n-(i+1),by omega,rfl,hlt,p'⟩,g2⟩
 ·have e:i=n:=by omega
  subst e;exact .inl (stop H p)
theorem Vals.bls:∀{bs:List Bool}{us:List Æ},Vals (bs.map V.bl) us->us=bs.map ŋ
 |[],_,.nil=>rfl
 |b::bs,_,.cons r t=>by
  have e:=Vals.bls t;cases r;rw[e];rfl
end L2
namespace L2
open PySem PySem.Spec PyProof.Rows PyProof.Rows.KTD
noncomputable def TabK(K:Þ)(a:Addr)(D:List (Str×List V)):Prop:=
 (a == Ħ)=false/\∃o es ep,K.lookup a=some o/\o.ExactDict/\o.data=.dict es ep/\KTD.Rows (λxs v=>∃p,v=.ref p/\∀H,SqT K H p xs) es.toList D
section
variable {prog:Ü}{w:ï}{A:Ā}{E:Æ->Ç->Prop}{s:Ç}{a:Addr}{k:Str}{tk:Tok}{o:Obj}{es:Array DictEntry}{ep:Nat}
theorem qdg(g:s.heap.get? a=some o)(gd:o.data=.dict es ep)(ge:(es.toList.all λe=>isExactStrKey e.key)=true)
  (q:Q ((es.toList.find? λe=>e.key.isStr k).map (·.val)) { s with toks:=s.toks+1 }):Ë (model prog w) A (dictGet a (.str k tk)) Q E s:=by
 obtain ⟨l⟩:=es;have q2:Q (findBy (λk v=>v.isStr k) ⟨l⟩ k) { s with toks:=s.toks+1 }:=by
  rw[show findBy (λk v=>v.isStr k) (⟨l⟩:Array DictEntry) k=(l.find? λe=>e.key.isStr k).map (·.val) by simp[findBy]];exact q
 unfold dictGet
 try with_reducible refine î ?_
 refine À (wpAny_pyHash_str ?_);refine À ?_;refine kt_dictFind_strs (s:={ s with toks:=s.toks+1 }) g gd (by simpa using ge) ?_;rw[findBy_of_findIdx?]at q2;revert q2;cases (⟨l⟩:Array DictEntry).findIdx? λe=>e.key.isStr k with
 |none=>intro q2;exact Ã q2
 |some i=>intro q2;refine À ?_;exact ac (s:={ s with toks:=s.toks+1 }) g gd (Ã q2)
end
section
variable {X:Cx}{pins:List (Addr×Obj)}{σ:St}{H:Hp}{s:Ç}{a:Addr}{D:List (Str×List V)}
theorem TabK.dict(I:Inv X pins σ H s)(T:TabK X.K a D):s.TypeIs (.ref a) "dict"/\∀b,ã a=.ref b->∃ob,s.heap.get? b=some ob/\ob.dict=none:=by
 obtain ⟨_,o,es,ep,hl,hx,hd,hr⟩:=T;refine ⟨⟨o,I.kIn a o hl,hx.1⟩,λb e=>?_⟩;cases e;exact ⟨o,I.kIn a o hl,hx.2.1⟩
theorem TabK.ask(I:Inv X pins σ H s)(T:TabK X.K a D)
  (h1:∀xs p,datumAt k D=some xs->(∀H,SqT X.K H p xs)->Q (some (.ref p)) { s with toks:=s.toks+1 }) (h2:datumAt k D=none->Q none { s with toks:=s.toks+1 }):Ë (model X.prog X.w) A (dictGet a (.str k tk)) Q E s:=by
 obtain ⟨_,o,es,ep,hl,hx,hd,hr⟩:=T;refine qdg (I.kIn a o hl) hd hr.exact ?_;cases hat:datumAt k D with
 |some xs=>
  obtain ⟨v,hv,p,rfl,hp⟩:=hr.find_some hat;rw[hv];exact h1 xs p hat hp
 |none=>rw[hr.find_none hat];exact h2 hat
noncomputable def rIxTab(K:Þ)(D:List (Str×List V)):R2:=λx y H Q=>∃a k xs,x=.ref a/\y=.str k/\TabK K a D/\datumAt k D=some xs/\∀p,(∀H,SqT K H p xs)->Q (.ref p) H
theorem ix_tab:IxR X (rIxTab X.K D):=by
 intro value slice pins s σ H x y v u Q I rx ry h hs;obtain ⟨a,k,xs,rfl,rfl,T,hd,q⟩:=h;cases rx;obtain ⟨tk,rfl⟩:=ry;obtain ⟨hsm,o,es,ep,hl,hx,hd2,hr⟩:=id T;obtain ⟨v,hv,p,rfl,hp⟩:=hr.find_some hd;have fin:EP X pins σ Q (.ref p) { s with toks:=s.toks+1 }:=⟨.ref p,H,I.tok _,rfl,q p hp⟩;refine subscriptTail_builtinR (x:=.ref p) (T.dict I).1 slot_dict_getitem.lookup ?_ hs;unfold getItem
 try with_reducible refine î ?_
 refine À (wpAny_sequenceKey (T.dict I).1 (by decide) ?_);refine À (è (name:=Ċ "__getitem__") (T.dict I).1 slot_dict_getitem (å slot_dict_getitem (T.dict I).1 entry_dict_getitem ?_ (args_dict_getitem _ _)));show Ë _ _ (dictGet a (.str k tk) >>= _) _ _ _;refine À (qdg (I.kIn a o hl) hd2 hr.exact ?_);rw[hv];exact Ã ⟨_,rfl,Ã ⟨rfl,fin⟩⟩
noncomputable def rInTab(K:Þ)(D:List (Str×List V)):R2:=λx y H Q=>∃a k,x=.str k/\y=.ref a/\TabK K a D/\Q (.bl (inKeys k D)) H
theorem yhc:OpR X (ĕ .In) (rInTab X.K D):=by
 intro pins s σ H x y v u Q I rx ry h;obtain ⟨a,k,rfl,rfl,T,q⟩:=h;cases ry;obtain ⟨tk,rfl⟩:=rx;show Ë _ _ (contains (.ref a) (.str k tk) >>= λc=>pure (ŋ c)) _ _ s;refine À ?_;unfold contains
 try with_reducible refine î ?_
 refine À (Ů (T.dict I).1 slot_dict_contains.lookup ?_);show Ë _ _ (if (some (Value.builtin "dict.__contains__") == some ó)=true then _ else _) _ _ s;rw[if_neg (by rw[beq_builtin_none];exact ú)];refine À (wpAny_callSpecialUnlessNone?_slot (name:=Ċ "__contains__") (T.dict I).1 slot_dict_contains (å slot_dict_contains (T.dict I).1 entry_dict_contains ?_ (args_dict_contains _ _)));show Ë _ _ (dictGet a (.str k tk) >>= _) _ _ _;refine À (T.ask I (λxs p hd hp=>?_) λhn=>?_)
 ·have e:inKeys k D=true:=by rw[<-isSome_datumAt,hd];rfl
  rw[e]at q;show Ë _ _ (ret (.bool true)) _ _ _;exact Ã ⟨_,rfl,Ķ (Ã ⟨.bl true,H,I.tok _,rfl,q⟩)⟩
 ·have e:inKeys k D=false:=by rw[<-isSome_datumAt,hn];rfl
  rw[e]at q;show Ë _ _ (Builtin.Dict.pendingKey? a (.str k tk) >>= _) _ _ _;exact À (wpAny_pendingKey_other T.1 (Ã ⟨_,rfl,Ķ (Ã ⟨.bl false,H,I.tok _,rfl,q⟩)⟩))
theorem SqT.same{K:Þ}{H H':Hp}{a:Addr}{xs:List V}(s:Same H H')(h:SqT K H a xs):SqT K H' a xs:=by
 rcases h with h|h
 ·rcases h with h|⟨o,h⟩
  ·exact .inl (.inl (s _ _ h))
  ·exact .inl (.inr ⟨o,s _ _ h⟩)
 ·exact .inr h
end
end L2
namespace L2
open PySem PySem.Spec PyProof.Rows
open Builtin.SmallTypes (nextOf)
noncomputable def SIt(h:Heap)(tp:Bool)(q l:Addr)(i:Nat):Prop:=if tp then IsTupIter h q l i else h.IsListIter q l i
noncomputable def SOf(h:Heap)(tp:Bool)(l:Addr)(its:Array Æ):Prop:=if tp then IsTup h l its else h.IsList l its
section
variable {prog:Ü}{w:ï}{A:Ā}{E:Æ->Ç->Prop}{s:Ç}{q l:Addr}{i:Nat}{its:Array Æ}
theorem SIt.at(x:SIt h tp q l i)(k:∀o,h.get? q=some o->h'.get? q=some o):SIt h' tp q l i:=by
 cases tp with
 |true=>obtain ⟨o,g,r⟩:=x;exact ⟨o,k o g,r⟩
 |false=>obtain ⟨o,g,r⟩:=x;exact ⟨o,k o g,r⟩
theorem SIt.lt(x:SIt h tp q l i):q<h.objs.size:=by
 cases tp with
 |true=>obtain ⟨o,g,r⟩:=x;exact é g
 |false=>obtain ⟨o,g,r⟩:=x;exact é g
theorem SIt.obj(x:SIt h tp q l i):∃o,h.get? q=some o/\∀v,o.data≠.cell v:=by
 cases tp with
 |true=>obtain ⟨o,g,c,d⟩:=x;exact ⟨o,g,λv z=>by rw[d]at z;cases z⟩
 |false=>obtain ⟨o,g,c,d⟩:=x;exact ⟨o,g,λv z=>by rw[d]at z;cases z⟩
theorem SOf.at(x:SOf h tp l its)(k:∀o,h.get? l=some o->h'.get? l=some o):SOf h' tp l its:=by
 cases tp with
 |true=>obtain ⟨o,g,r⟩:=x;exact ⟨o,k o g,r⟩
 |false=>obtain ⟨o,g,r⟩:=x;exact ⟨o,k o g,r⟩
theorem yau(hq:SIt s.heap tp q l i)(hl:SOf s.heap tp l its)(hx:its[i]?=some x)
  (k:∀h',SIt h' tp q l (i+1)->ü q s.heap h'->Q x { s with heap:=h' }):Ë (model prog w) A (nextOf (.ref q)) Q E s:=by
 cases tp with
 |false=>exact wpAny_nextOf_list_item hq hl hx k
 |true=>
  have hq':IsTupIter s.heap q l i:=hq;obtain ⟨o,go,gc,gd⟩:=id hq';obtain ⟨ol,gl,_,nl,gdl⟩:=(show IsTup s.heap l its from hl);unfold Builtin.SmallTypes.nextOf;refine À (è (name:=Ċ "__next__") hq'.typeIs aW (å aW hq'.typeIs entry_tupleiter_next ?_ (args_tupleiter_next _)));show Ë _ _ (field (.ref q) 0 >>= _) _ _ s;refine À (ý go gd (x:=.ref l) rfl ?_);show Ë _ _ (if (ã l == ó)=true then _ else _) _ _ s;rw[if_neg (by exact ú:¬ ((ã l == ó)=true))];show Ë _ _ (field (.ref q) 1 >>= _) _ _ s;refine À (ý go gd (x:=.int i 0) rfl ?_);show Ë _ _ (seqItems? (.ref l) >>= _) _ _ s;refine À (ē gl gdl ?_);simp only[aJ,hx];refine À (wpAny_setField go gd (by simp) (Ã ⟨x,rfl,?_⟩));refine Ã (k _ ?_ (ę ..));exact ⟨_,Ő _ go (Obj.isFreed_of_fields (aU gd _)),(Obj.cls_mapFields ..).trans gc,by rw[aU gd];simp[đ]⟩
theorem ybh(hh:A.handled=none)(hq:SIt s.heap tp q l i)(hl:SOf s.heap tp l its)(hx:its[i]?=none)
  (k:∀h' e,Heap.ExtBut q s.heap h'->(∃o,h'.get? e=some o/\o.cls=.type "StopIteration")->E (.ref e) { s with heap:=h' }):Ë (model prog w) A (nextOf (.ref q)) Q E s:=by
 cases tp with
 |false=>exact wpAny_nextOf_list_end hh hq hl hx k
 |true=>
  have hq':IsTupIter s.heap q l i:=hq;obtain ⟨o,go,gc,gd⟩:=id hq';obtain ⟨ol,gl,_,nl,gdl⟩:=(show IsTup s.heap l its from hl);unfold Builtin.SmallTypes.nextOf;refine À (è (name:=Ċ "__next__") hq'.typeIs aW (å aW hq'.typeIs entry_tupleiter_next ?_ (args_tupleiter_next _)));show Ë _ _ (field (.ref q) 0 >>= _) _ _ s;refine À (ý go gd (x:=.ref l) rfl ?_);show Ë _ _ (if (ã l == ó)=true then _ else _) _ _ s;rw[if_neg (by exact ú:¬ ((ã l == ó)=true))];show Ë _ _ (field (.ref q) 1 >>= _) _ _ s;refine À (ý go gd (x:=.int i 0) rfl ?_);show Ë _ _ (seqItems? (.ref l) >>= _) _ _ s;refine À (ē gl gdl ?_);simp only[aJ,hx];refine À (Ũ ?_);refine À (wpAny_setField go gd (by simp) ?_);show Ë _ _ (newExc (.type "StopIteration") [] >>= _) _ _ _;refine À ?_;simp only[newExc,newTuple];refine À (Ą ?_ (by size_fits));refine À (m:=af _ _) ?_;refine Ť (a:=ó) (by first|rfl|(simp only[af];rfl)) ?_;refine Ą ?_ (by size_fits);simp only[raiseNew];refine À (wpAny_handled ?_)
  first|rw[show A.in1.handled=none from hh]|rw[hh]
  refine À (Ã (wpAny_throw ?_));exact k _ _ (((ę ..).extBut.push _).push _) ⟨_,Ô _ rfl,rfl⟩
theorem ş{a b:Nat}(h:a<b\/b<a):a≠b:=by omega
theorem yid{n l1 l2 k:Nat}{xs ys:Array Æ}{x y a b:Æ}{t1 t2:Bool}{Q:Æ->Ç->Prop}(b1:l1<n)(b2:l2<n)(gz:IsZip s.heap (n+4) (n+2) (n+3) .none)(gi:ų s.heap (n+2) (.ref n) (.ref (n+1)))(go:ų s.heap (n+3) a b)
  (q1:SIt s.heap t1 n l1 k) (q2:SIt s.heap t2 (n+1) l2 k) (o1:SOf s.heap t1 l1 xs) (o2:SOf s.heap t2 l2 ys) (hx:xs[k]?=some x) (hy:ys[k]?=some y)
  (kk:∀h',IsZip h' (n+4) (n+2) (n+3) (đ s.heap.objs.size)->ų h' (n+3) x y->SIt h' t1 n l1 (k+1)->SIt h' t2 (n+1) l2 (k+1)->ų h' s.heap.objs.size x y->h'.objs.size=s.heap.objs.size+1->
   (∀c o,c≠n+4->c≠n+3->c≠n->c≠n+1->s.heap.get? c=some o->h'.get? c=some o)->Q (.ref s.heap.objs.size) { s with heap:=h' }) :
  Ë (model prog w) A (Ĵ.«zip.__next__» ⟨[.ref (n+4)],[]⟩) (λfin s'=>∃v,fin=.done (.ret v)/\Q v s') E s:=by
 show Ë _ _ (field (.ref (n+4)) 2 >>= _) _ _ _;refine À (ý gz rfl (x:=.bool false) rfl ?_);show Ë _ _ (field (.ref (n+4)) 3 >>= _) _ _ _;refine À (ý gz rfl (x:=.ref (n+2)) rfl ?_);refine À (ē gi rfl ?_);show Ë _ _ (ÿ (.ref (n+4)) >>= _) _ _ _;refine À ?_;unfold ÿ;refine À (ý gz rfl (x:=.none) rfl ?_);refine Ã ?_;simp only[if_true];refine À (Ũ ?_);refine À (ý gz rfl (x:=.ref (n+3)) rfl ?_);refine À (ð gz (by simp) λm1 gz1 e1=>?_);replace gz1:IsZip m1 (n+4) (n+2) (n+3) .ellipsis:=gz1;refine À ?_;simp only[List.zipIdx_cons,List.zipIdx_nil,forIn_cons,forIn_nil];refine À (À ?_);refine wpAny_onRaise ?_;show Ë _ _ (nextOf (.ref n) >>= _) _ _ _;refine À (yau (q1.at λo g=>e1.extBut _ _ (ş (by omega)) g) (o1.at λo g=>e1.extBut _ _ (ş (by omega)) g) hx λm2 r1 e2=>?_);refine Ã ?_;have go2:ų m2 (n+3) a b:=e2.extBut _ _ (ş (by omega)) (e1.extBut _ _ (ş (by omega)) go);refine À (ē go2 rfl ?_);refine À (wpAny_updateSeq_pair go2 λm3 go3 e3=>?_);replace go3:ų m3 (n+3) x b:=go3;refine À (wpAny_letGo ?_);refine Ã ?_;refine À (À ?_);refine wpAny_onRaise ?_;show Ë _ _ (nextOf (.ref (n+1)) >>= _) _ _ _;refine À (yau (q2.at λo g=>e3.extBut _ _ (ş (by omega)) (e2.extBut _ _ (ş (by omega)) (e1.extBut _ _ (ş (by omega)) g))) (o2.at λo g=>e3.extBut _ _ (ş (by omega)) (e2.extBut _ _ (ş (by omega)) (e1.extBut _ _ (ş (by omega)) g))) hy λm4 r2 e4=>?_);refine Ã ?_;have go4:ų m4 (n+3) x b:=e4.extBut _ _ (ş (by omega)) go3;refine À (ē go4 rfl ?_);refine À (wpAny_updateSeq_pair go4 λm5 go5 e5=>?_);replace go5:ų m5 (n+3) x y:=go5;refine À (wpAny_letGo ?_);refine Ã (Ã ?_);refine À (ē go5 rfl ?_);refine À (Ψ ?_);have hsz:m5.objs.size=s.heap.objs.size:=by rw[e5.1,e4.1,e3.1,e2.1,e1.1]
 have gz5:IsZip m5 (n+4) (n+2) (n+3) .ellipsis:=e5.extBut _ _ (ş (by omega)) (e4.extBut _ _ (ş (by omega)) (e3.extBut _ _ (ş (by omega)) (e2.extBut _ _ (ş (by omega)) gz1)));have keep5:∀c o,c≠n+4->c≠n+3->c≠n->c≠n+1->s.heap.get? c=some o->m5.get? c=some o:=λc o d1 d2 d3 d4 g=>
  e5.extBut _ _ d2 (e4.extBut _ _ d4 (e3.extBut _ _ d2 (e2.extBut _ _ d3 (e1.extBut _ _ d1 g))))
 have r15:SIt m5 t1 n l1 (k+1):=r1.at λo g=>e5.extBut _ _ (ş (by omega)) (e4.extBut _ _ (ş (by omega)) (e3.extBut _ _ (ş (by omega)) g));have r25:SIt m5 t2 (n+1) l2 (k+1):=r2.at λo g=>e5.extBut _ _ (ş (by omega)) g;have lt5:n+4<m5.objs.size:=é gz5;show Ë _ _ (aO (.ref (n+4)) (.ref m5.objs.size) >>= _) _ _ _;refine À ?_;unfold aO;have gz6:IsZip (m5.push { cls:=.type "tuple",data:=.seq #[x,y] }) (n+4) (n+2) (n+3) .ellipsis:=È _ gz5;refine À (ð gz6 (by simp) λm7 gz7 e7=>?_);replace gz7:IsZip m7 (n+4) (n+2) (n+3) (đ m5.objs.size):=gz7;refine ð gz7 (by simp) λm8 gz8 e8=>?_;replace gz8:IsZip m8 (n+4) (n+2) (n+3) (đ m5.objs.size):=gz8;have up:∀c o,c≠n+4->m5.get? c=some o->m8.get? c=some o:=λc o d1 g=>e8.extBut _ _ d1 (e7.extBut _ _ d1 (È _ g));have gt8:ų m8 m5.objs.size x y:=e8.extBut _ _ (ai lt5) (e7.extBut _ _ (ai lt5) (Ô _ rfl));have hs8:m8.objs.size=m5.objs.size+1:=by rw[e8.1,e7.1,Ŀ]
 rw[hsz]at gz8 gt8 hs8;refine Ã ⟨_,rfl,?_⟩;show Q (.ref m5.objs.size) _;rw[hsz];exact kk m8 gz8 (up _ _ (ş (by omega)) go5) (r15.at λo g=>up _ o (ş (by omega)) g) (r25.at λo g=>up _ o (ş (by omega)) g) gt8 hs8 λc o d1 d2 d3 d4 g=>up c o d1 (keep5 c o d1 d2 d3 d4 g)
theorem qi6{n l1 l2 k:Nat}{xs ys:Array Æ}{a b:Æ}{t1 t2:Bool}{Q:Fin->Ç->Prop}(hh:A.handled=none)(b1:l1<n)(b2:l2<n)(gz:IsZip s.heap (n+4) (n+2) (n+3) .none)(gi:ų s.heap (n+2) (.ref n) (.ref (n+1)))(go:ų s.heap (n+3) a b)
  (q1:SIt s.heap t1 n l1 k) (q2:SIt s.heap t2 (n+1) l2 k) (o1:SOf s.heap t1 l1 xs) (o2:SOf s.heap t2 l2 ys) (hend:xs[k]?=none\/ys[k]?=none)
  (kk:∀h' e,(∀c o,c≠n+4->c≠n+3->c≠n->c≠n+1->s.heap.get? c=some o->h'.get? c=some o)->(∃o,h'.get? e=some o/\o.cls=.type "StopIteration")->E (.ref e) { s with heap:=h' }) :
  Ë (model prog w) A (Ĵ.«zip.__next__» ⟨[.ref (n+4)],[]⟩) Q E s:=by
 show Ë _ _ (field (.ref (n+4)) 2 >>= _) _ _ _;refine À (ý gz rfl (x:=.bool false) rfl ?_);show Ë _ _ (field (.ref (n+4)) 3 >>= _) _ _ _;refine À (ý gz rfl (x:=.ref (n+2)) rfl ?_);refine À (ē gi rfl ?_);show Ë _ _ (ÿ (.ref (n+4)) >>= _) _ _ _;refine À ?_;unfold ÿ;refine À (ý gz rfl (x:=.none) rfl ?_);refine Ã ?_;simp only[if_true];refine À (Ũ ?_);refine À (ý gz rfl (x:=.ref (n+3)) rfl ?_);refine À (ð gz (by simp) λm1 gz1 e1=>?_);replace gz1:IsZip m1 (n+4) (n+2) (n+3) .ellipsis:=gz1;refine À ?_;simp only[List.zipIdx_cons,List.zipIdx_nil,forIn_cons,forIn_nil];refine À (À ?_);refine wpAny_onRaise ?_;show Ë _ _ (nextOf (.ref n) >>= _) _ _ _;have p1:SIt m1 t1 n l1 k:=q1.at λo g=>e1.extBut _ _ (ş (by omega)) g;have p2:SOf m1 t1 l1 xs:=o1.at λo g=>e1.extBut _ _ (ş (by omega)) g;cases hx:xs[k]? with
 |none=>
  refine À (ybh hh p1 p2 hx λm2 e g2 he=>?_);obtain ⟨oe,hoe,hce⟩:=he;have gz2:IsZip m2 (n+4) (n+2) (n+3) .ellipsis:=g2 _ _ (ş (by omega)) gz1;have ne:e≠n+4:=λz=>by subst z;rw[gz2]at hoe;cases hoe;simp at hce
  refine ð gz2 (by simp) λm3 _ e3=>?_;exact kk m3 e (λc o d1 _ d3 _ g=>e3.extBut _ _ d1 (g2 _ _ d3 (e1.extBut _ _ d1 g))) ⟨oe,e3.extBut _ _ ne hoe,hce⟩
 |some x=>
  have hy:ys[k]?=none:=by
   rcases hend with z|z
   ·rw[hx]at z;cases z
   ·exact z
  refine À (yau p1 p2 hx λm2 r1 e2=>?_);refine Ã ?_;have go2:ų m2 (n+3) a b:=e2.extBut _ _ (ş (by omega)) (e1.extBut _ _ (ş (by omega)) go);refine À (ē go2 rfl ?_);refine À (wpAny_updateSeq_pair go2 λm3 go3 e3=>?_);refine À (wpAny_letGo ?_);refine Ã ?_;refine À (À ?_);refine wpAny_onRaise ?_;show Ë _ _ (nextOf (.ref (n+1)) >>= _) _ _ _;refine À (ybh hh (q2.at λo g=>e3.extBut _ _ (ş (by omega)) (e2.extBut _ _ (ş (by omega)) (e1.extBut _ _ (ş (by omega)) g))) (o2.at λo g=>e3.extBut _ _ (ş (by omega)) (e2.extBut _ _ (ş (by omega)) (e1.extBut _ _ (ş (by omega)) g))) hy λm4 e g4 he=>?_);obtain ⟨oe,hoe,hce⟩:=he;have gz4:IsZip m4 (n+4) (n+2) (n+3) .ellipsis:=g4 _ _ (ş (by omega)) (e3.extBut _ _ (ş (by omega)) (e2.extBut _ _ (ş (by omega)) gz1));have ne:e≠n+4:=λz=>by subst z;rw[gz4]at hoe;cases hoe;simp at hce
  refine ð gz4 (by simp) λm5 _ e5=>?_;exact kk m5 e (λc o d1 d2 d3 d4 g=>e5.extBut _ _ d1 (g4 _ _ d4 (e3.extBut _ _ d2 (e2.extBut _ _ d3 (e1.extBut _ _ d1 g))))) ⟨oe,e5.extBut _ _ ne hoe,hce⟩
noncomputable def itN(tp:Bool):String:=if tp then "tuple_iterator" else "list_iterator"
theorem iterS(hl:SOf s.heap tp l its)(k:Q (.ref s.heap.objs.size) { s with heap:=s.heap.push { cls:=.type (itN tp),data:=.fields #[.ref l,.int 0 0] } }):Ë (model prog w) A (pyIter (.ref l)) Q E s:=by
 cases tp with
 |true=>exact iter_tuple hl k
 |false=>exact Χ hl k
theorem SIt.new{tp:Bool}{h:Heap}:SIt (h.push { cls:=.type (itN tp),data:=.fields #[.ref l,.int 0 0] }) tp h.objs.size l 0:=by
 cases tp with
 |true=>exact ⟨_,Ô _ rfl,rfl,rfl⟩
 |false=>exact ⟨_,Ô _ rfl,rfl,rfl⟩
noncomputable abbrev zp1(h:Heap)(t1:Bool)(l1:Addr):Heap:=h.push { cls:=.type (itN t1),data:=.fields #[.ref l1,.int 0 0] }
noncomputable abbrev zp2(h:Heap)(t1 t2:Bool)(l1 l2:Addr):Heap:=(zp1 h t1 l1).push { cls:=.type (itN t2),data:=.fields #[.ref l2,.int 0 0] }
noncomputable abbrev zp3(h:Heap)(t1 t2:Bool)(l1 l2:Addr):Heap:=(zp2 h t1 t2 l1 l2).push { cls:=.type "tuple",data:=.seq #[.ref h.objs.size,.ref (zp1 h t1 l1).objs.size] }
noncomputable abbrev zp4(h:Heap)(t1 t2:Bool)(l1 l2:Addr):Heap:=(zp3 h t1 t2 l1 l2).push { cls:=.type "tuple",data:=.seq #[.none,.none] }
noncomputable abbrev zp5(h:Heap)(t1 t2:Bool)(l1 l2:Addr):Heap:=(zp4 h t1 t2 l1 l2).push { cls:=.type "zip",data:=.fields #[.none,.bool false,.bool false,.ref (zp2 h t1 t2 l1 l2).objs.size,.ref (zp3 h t1 t2 l1 l2).objs.size] }
theorem zipNew(t1 t2:Bool)(l1 l2:Addr)(xs ys:Array Æ) :
  Meets (Ĵ.«zip.__new__» ⟨[.type "zip",.ref l1,.ref l2],[]⟩) (λ_ R s=>SOf s.heap t1 l1 xs/\SOf s.heap t2 l2 ys/\R (.ok (.ret (.ref (zp4 s.heap t1 t2 l1 l2).objs.size))) { s with heap:=zp5 s.heap t1 t2 l1 l2 }):=
 .of_wp λprog w A R s h=>by
  obtain ⟨hp,g,d,tk,os⟩:=s;obtain ⟨y1,y2,h⟩:=h;have hsub:=sub_zip;have Y1:SOf (Shared.heap ⟨hp,g,d,tk,os⟩) t1 l1 xs:=y1;have Y2:SOf (Shared.heap ⟨hp.push { cls:=.type (itN t1),data:=.fields #[.ref l1,.int 0 0] },g,d,tk,os⟩) t2 l2 ys:=y2.at λo z=>È _ z
  wp_walk using iterS Y1,iterS Y2
  exact ⟨_,rfl,h⟩
end
theorem yfj:Ī "zip"=some (.type "zip"):=by decide +kernel
section
variable {prog:Ü}{w:ï}{A:Ā}{E:Æ->Ç->Prop}{s:Ç}
noncomputable def ZSt(h:Heap)(n:Nat)(t1 t2:Bool)(l1 l2:Addr)(i:Nat):Prop:=
 ∃a b,IsZip h (n+4) (n+2) (n+3) .none/\ų h (n+2) (.ref n) (.ref (n+1))/\ų h (n+3) a b/\SIt h t1 n l1 i/\SIt h t2 (n+1) l2 i
theorem yfn(y1:SOf s.heap t1 l1 xs)(y2:SOf s.heap t2 l2 ys)
  (k:∀h',ZSt h' s.heap.objs.size t1 t2 l1 l2 0->(∀c o,s.heap.get? c=some o->h'.get? c=some o)->Q (.ref (s.heap.objs.size+4)) { s with heap:=h' }) :
  Ë (model prog w) A (call (.type "zip") [.ref l1,.ref l2]) Q E s:=by
 refine callType_new F.called_zip (by decide) (F.typeCall_zip_2 _ _) (F.newCall_zip_2 _ _) (λobj=>F.args_object_init_3 obj _ _) F.entry_zip_new (zipNew t1 t2 l1 l2 xs ys) ⟨y1,y2,?_⟩;have z1:(zp1 s.heap t1 l1).objs.size=s.heap.objs.size+1:=Ŀ ..;have z2:(zp2 s.heap t1 t2 l1 l2).objs.size=s.heap.objs.size+2:=by rw[Ŀ,z1]
 have z3:(zp3 s.heap t1 t2 l1 l2).objs.size=s.heap.objs.size+3:=by rw[Ŀ,z2]
 have z4:(zp4 s.heap t1 t2 l1 l2).objs.size=s.heap.objs.size+4:=by rw[Ŀ,z3]
 have u5:∀c o,(zp4 s.heap t1 t2 l1 l2).get? c=some o->(zp5 s.heap t1 t2 l1 l2).get? c=some o:=λc o g=>È _ g;have u4:∀c o,(zp3 s.heap t1 t2 l1 l2).get? c=some o->(zp5 s.heap t1 t2 l1 l2).get? c=some o:=λc o g=>u5 c o (È _ g);have u3:∀c o,(zp2 s.heap t1 t2 l1 l2).get? c=some o->(zp5 s.heap t1 t2 l1 l2).get? c=some o:=λc o g=>u4 c o (È _ g);have u2:∀c o,(zp1 s.heap t1 l1).get? c=some o->(zp5 s.heap t1 t2 l1 l2).get? c=some o:=λc o g=>u3 c o (È _ g);have g5:(zp5 s.heap t1 t2 l1 l2).get? (zp4 s.heap t1 t2 l1 l2).objs.size=some _:=Ô _ rfl;have g4:(zp5 s.heap t1 t2 l1 l2).get? (zp3 s.heap t1 t2 l1 l2).objs.size=some _:=u5 _ _ (Ô _ rfl);have g3:(zp5 s.heap t1 t2 l1 l2).get? (zp2 s.heap t1 t2 l1 l2).objs.size=some _:=u4 _ _ (Ô _ rfl);have i2:SIt (zp5 s.heap t1 t2 l1 l2) t2 (zp1 s.heap t1 l1).objs.size l2 0:=SIt.new.at λo g=>u3 _ o g;have i1:SIt (zp5 s.heap t1 t2 l1 l2) t1 s.heap.objs.size l1 0:=SIt.new.at λo g=>u2 _ o g;show _/\_;rw[z2,z3,z4]at g5;rw[z1,z2]at g3;rw[z3]at g4;rw[z1]at i2;rw[z4];exact ⟨⟨_,g5,rfl⟩,k _ ⟨_,_,g5,g3,g4,i1,i2⟩ λc o g=>u2 c o (È _ g)⟩
end
noncomputable def Sq(K:Þ)(tp:Bool)(H:Hp)(l:Addr)(xs:List V):Prop:=if tp then SqT K H l xs else SqL K H l xs
section
variable {X:Cx}{pins:List (Addr×Obj)}{σ:St}{H:Hp}{s:Ç}
theorem Inv.sq(I:Inv X pins σ H s)(h:Sq X.K tp H l xs):∃its:List Æ,Vals xs its/\SOf s.heap tp l its.toArray/\l<s.heap.objs.size:=by
 cases tp with
 |true=>
  obtain ⟨its,r,pl,z⟩:=I.tuple h;obtain ⟨o,g,_⟩:=id pl;exact ⟨its,r,pl,é g⟩
 |false=>
  obtain ⟨its,r,pl,z⟩:=I.list h;obtain ⟨o,g,_⟩:=id pl.isList;exact ⟨its,r,pl.isList,é g⟩
theorem Inv.sq_inj(I:Inv X pins σ H s)(h:Sq X.K tp H l xs)(h':Sq X.K tp H l ys):xs=ys:=by
 cases tp with
 |true=>exact I.tuple_inj h h'
 |false=>exact I.list_inj h h'
end
section
variable {X:Cx}{pins:List (Addr×Obj)}{σ:St}{H:Hp}{s:Ç}{h':Heap}
theorem Inv.turnedM{ch:List Addr}{t':Nat}(I:Inv X pins σ H s)(k:∀b u,b∉ch->s.heap.get? b=some u->h'.get? b=some u)(hf:∀b∈ch,FpOk X pins H b):Inv X pins σ H { s with heap:=h',toks:=t' }:=by
 have nit:∀b u,H b=some u->b∉ch:=λb u e z=>by rw[(hf b z).1]at e;cases e
 refine I.step (g':=s.gens) (d':=s.drawn) (ch:=ch) (λb hb=>?_) (λb u _ _ hc e _=>k b u hc e) (λb u _ _ hc e _=>⟨u.slots,k b u hc e⟩) (λb u _ e n=>n)
  (λb u hc e=>⟨u,k b u hc e⟩) (λb xs e=>e) (λb u xs e=>e) (λb ps e=>⟨#[],by rw[e];simp⟩) (λm hm=>?_) (λb u e=>?_) I.bare
 ·obtain ⟨_,f1,_,f3,f4,f5⟩:=hf b hb;exact ⟨f3,f1,f4,f5⟩
 ·obtain ⟨ob,es,ep,ho,r⟩:=hm;exact ⟨ob,es,ep,k _ ob (λz=>(hf _ z).2.1 rfl) ho,r⟩
 ·refine (I.hok b u e).stay (λc v hc q=>k c v ?_ q) (λc q=>q) λc xs q=>q;rcases hc with rfl|hc
  ·exact nit _ u e
  ·exact nit c _ hc
end
noncomputable def Itz(K:Þ)(t1 t2:Bool)(l1 l2:Addr):It:=
  ⟨λi H=>∃xs ys x y,Sq K t1 H l1 xs/\Sq K t2 H l2 ys/\xs[i]?=some x/\ys[i]?=some y,
   λi H x H'=>∃p u v,H p=none/\x=.ref p/\H'=upd H p (.tup [u,v])/\∀xs ys,Sq K t1 H l1 xs->Sq K t2 H l2 ys->xs[i]?=some u/\ys[i]?=some v,
   λi H=>∃xs ys,Sq K t1 H l1 xs/\Sq K t2 H l2 ys/\(xs[i]?=none\/ys[i]?=none)⟩
theorem qfr{xs:List V}{us:List Æ}{i:Nat}(r:Vals xs us)(h:xs[i]?=none):us[i]?=none:=by
 rw[aX]at h ⊢;rw[<-r.length];exact h
theorem turn_zip{P:Ü}{w:ï}{K:Þ}{es:List Expr}{k:Nat}{tp:Pos}{t1 t2:Bool}(l1 l2 n:Nat)(b1:l1<n)(b2:l2<n) :
  Turn P w K (.Tuple es k tp) (Itz K t1 t2 l1 l2) [n,n+1,n+2,n+3,n+4] (n+4) (λi h=>ZSt h n t1 t2 l1 l2 i) where
 mem:=by simp
 obj:=λi h st b hb=>by
  obtain ⟨x,y,gz,gi,go,q1,q2⟩:=st;have hb':b=n\/b=n+1\/b=n+2\/b=n+3\/b=n+4:=by simpa using hb
  rcases hb' with rfl|rfl|rfl|rfl|rfl
  ·exact q1.obj
  ·exact q2.obj
  ·exact ⟨_,gi,λv z=>by
    have z':Data.seq _ _=Data.cell v:=z;cases z'⟩
  ·exact ⟨_,go,λv z=>by
    have z':Data.seq _ _=Data.cell v:=z;cases z'⟩
  ·exact ⟨_,gz,λv z=>by
    have z':Data.fields _=Data.cell v:=z;cases z'⟩
 keep:=λi h h' st kk=>by
  obtain ⟨x,y,gz,gi,go,q1,q2⟩:=st;exact ⟨x,y,kk _ (by simp) _ gz,kk _ (by simp) _ gi,kk _ (by simp) _ go,q1.at λo z=>kk _ (by simp) o z,q2.at λo z=>kk _ (by simp) o z⟩
 item:=by
  intro X hP hw hK hc i pins s σ H E I hf st hg;subst hP hw hK;obtain ⟨xs,ys,x,y,hq1,hq2,hx,hy⟩:=hg;obtain ⟨its1,rv1,so1,_⟩:=I.sq hq1;obtain ⟨its2,rv2,so2,_⟩:=I.sq hq2;obtain ⟨u1,hu1,ru1⟩:=rv1.get hx;obtain ⟨u2,hu2,ru2⟩:=rv2.get hy;obtain ⟨x0,y0,gz,gi,go,q1,q2⟩:=st;have lt4:n+4<s.heap.objs.size:=é gz;have hT:s.TypeIs (.ref (n+4)) "zip":=⟨_,gz,rfl⟩;unfold Ř;refine À (ĩ (è (name:=Ċ "__next__") hT ŗ (å ŗ hT F.entry_zip_next ?_ (F.args_zip_next_1 _))));refine yid b1 b2 gz gi go q1 q2 so1 so2 (x:=u1) (y:=u2) (by simpa using hu1) (by simpa using hu2) λh' gz' go' r1 r2 hT' hsz kp=>?_;refine Ã ?_;refine ⟨_,rfl,wpAny_letOwnedTupleGo_zip gz' λh2 gz2 hs2=>?_⟩;have kp2:∀b ob,b∉[n,n+1,n+2,n+3,n+4]->s.heap.get? b=some ob->h2.get? b=some ob:=λb ob hb z=>by
   have d4:b≠n+4:=λq=>hb (by simp[q]);have d3:b≠n+3:=λq=>hb (by simp[q]);have d0:b≠n:=λq=>hb (by simp[q]);have d1:b≠n+1:=λq=>hb (by simp[q]);exact (hs2.2 b d4).trans (kp b ob d4 d3 d0 d1 z)
  have up2:∀b ob,b≠n+4->h'.get? b=some ob->h2.get? b=some ob:=λb ob d z=>(hs2.2 b d).trans z;have hT2:h2.get? s.heap.objs.size=some { cls:=.type "tuple",data:=.seq #[u1,u2] }:=up2 _ _ (ai lt4) hT';have fresh:H s.heap.objs.size=none:=I.hok.fresh (Ò _);have new:bh X.prog X.w (upd H s.heap.objs.size (.tup [x,y])) h2 s.heap.objs.size (.tup [x,y]):=⟨by show 2<=Õ;decide,[u1,u2],.cons ru1 (.cons ru2 .nil),⟨_,hT2,rfl,_,rfl⟩⟩;refine ⟨.ref s.heap.objs.size,upd H s.heap.objs.size (.tup [x,y]),I.turnedL kp2 hf (Ò _) new,rfl,⟨_,x,y,fresh,rfl,rfl,λas bs ha hb=>by rw[I.sq_inj ha hq1,I.sq_inj hb hq2];exact ⟨hx,hy⟩⟩,⟨_,_,gz2,?_,up2 _ _ (ş (by omega)) go',r1.at λo z=>up2 _ o (ş (by omega)) z,r2.at λo z=>up2 _ o (ş (by omega)) z⟩,λb hb=>?_⟩
  ·exact up2 _ _ (ş (by omega)) (kp _ _ (ş (by omega)) (ş (by omega)) (ş (by omega)) (ş (by omega)) gi)
  ·rw[Δ]
   ·exact (hf b hb).1
   ·have hb':b=n\/b=n+1\/b=n+2\/b=n+3\/b=n+4:=by simpa using hb
    rcases hb' with rfl|rfl|rfl|rfl|rfl<;>exact ş (by omega)
 done:=by
  intro X hP hw hK hc i pins s σ H E I hf st hg;subst hP hw hK;obtain ⟨xs,ys,hq1,hq2,hxy⟩:=hg;obtain ⟨its1,rv1,so1,_⟩:=I.sq hq1;obtain ⟨its2,rv2,so2,_⟩:=I.sq hq2;obtain ⟨x0,y0,gz,gi,go,q1,q2⟩:=st;have hT:s.TypeIs (.ref (n+4)) "zip":=⟨_,gz,rfl⟩;have hend:its1.toArray[i]?=none\/its2.toArray[i]?=none:=hxy.imp (λz=>by simpa using qfr rv1 z) λz=>by simpa using qfr rv2 z
  unfold Ř;refine À (ĩ (è (name:=Ċ "__next__") hT ŗ (å ŗ hT F.entry_zip_next (qi6 (I.ok.hd hc) b1 b2 gz gi go q1 q2 so1 so2 hend λh' e kp he=>?_) (F.args_zip_next_1 _))));obtain ⟨o,ho,hce⟩:=he;refine À (Ĳ (T:="StopIteration") (b:=true) ⟨o,ho,hce⟩ ae ?_);refine Ã ⟨rfl,?_⟩;refine I.turnedM (t':=s.toks) (ch:=[n,n+1,n+2,n+3,n+4]) (λb ob hb z=>?_) hf;exact kp b ob (λq=>hb (by simp[q])) (λq=>hb (by simp[q])) (λq=>hb (by simp[q])) (λq=>hb (by simp[q])) z
 self:=λ_ _ _ _ _ st h=>by
  obtain ⟨x0,y0,gz,gi,go,q1,q2⟩:=st;exact wpAny_pyIter_zip gz h
noncomputable def iZip(K:Þ)(ta:TA):TI:=λσ H R=>ta σ H λvs H1=>∃t1 t2 l1 l2 xs ys,vs=[.ref l1,.ref l2]/\Sq K t1 H1 l1 xs/\Sq K t2 H1 l2 ys/\R (Itz K t1 t2 l1 l2) H1
section
variable {X:Cx}
theorem pi_zip{a b:Expr}{ta:TA}{p pos tp:Pos}{es:List Expr}{k:Nat}(hg:Gl X "zip")(hm:X.mg "zip"=none)(ha:PA X [a,b] ta)(hs:â [a,b] X.env=(false,eval a X.env)::â [b] X.env:=by rfl)(hp:(ľ pos (â [b] X.env)).any (·.1)=false:=by rfl) :
  PI X (.Tuple es k tp) (.Call (.Name "zip" p) [a,b] [] pos) (iZip X.K ta):=by
 intro pins s σ H R I h;refine Call_ (fq I hg hm yfj (ċ (thn (ha pos pins s σ H _ I h) λus s1 ⟨vs,H1,I1,r1,q1⟩=>?_) hs hp));obtain ⟨t1,t2,l1,l2,xs,ys,e,hq1,hq2,q⟩:=q1;subst e;cases r1 with
 |cons r rr=>
  cases rr with
  |cons r2 rr=>
   cases rr;cases r;cases r2;obtain ⟨its1,rv1,so1,b1⟩:=I1.sq hq1;obtain ⟨its2,rv2,so2,b2⟩:=I1.sq hq2;refine yfn so1 so2 λh' st kp=>?_;obtain ⟨x0,y0,gz,gi,go,i1,i2⟩:=id st;refine wpAny_pyIter_zip gz ⟨_,[s1.heap.objs.size,s1.heap.objs.size+1,s1.heap.objs.size+2,s1.heap.objs.size+3,s1.heap.objs.size+4],_,Itz X.K t1 t2 l1 l2,H1,rfl,I1.kept (t':=s1.toks) kp,turn_zip l1 l2 s1.heap.objs.size b1 b2,st,λb hb=>?_,q⟩;have hb':s1.heap.objs.size<=b:=by
    have hb':b=s1.heap.objs.size\/b=s1.heap.objs.size+1\/b=s1.heap.objs.size+2\/b=s1.heap.objs.size+3\/b=s1.heap.objs.size+4:=by simpa using hb
    rcases hb' with rfl|rfl|rfl|rfl|rfl
    ·exact Ò _
    ·exact aj ..
    ·exact aj ..
    ·exact aj ..
    ·exact aj ..
   exact I1.fpOk hb' (I1.hok.fresh hb')
end
open Builtin.SmallTypes (nextOf ownedTupleIsFree ownedTupleHandOut)
noncomputable def bP(f0 f1:Æ)(q:Addr)(j:Int)(old:Æ):Obj:={ cls:=.type "enumerate",data:=.fields #[f0,f1,.ref q,đ j,.none,old] }
noncomputable def Outs(f0:Æ):Prop:=f0=.none\/∃a:Int,f0=đ a
noncomputable def NumR(h:Heap)(e q:Addr)(j:Int):Prop:=∃f0 f1 old,Outs f0/\h.get? e=some (bP f0 f1 q j old)
section
variable {prog:Ü}{w:ï}{A:Ā}{E:Æ->Ç->Prop}{s:Ç}{e q l:Addr}{i:Nat}{j:Int}{its:Array Æ}
theorem wp_alive(h:Q (s.heap.get? a) s):Ë (model prog w) A (loadIfAlive a) Q E s:=λ_ _ _=>h
theorem own_free(he:s.heap.get? e=some (bP f0 f1 q j old))(ou:Outs f0)(kt:Q true s)
  (kf:∀h',NumR h' e q j->ü e s.heap h'->Q false { s with heap:=h' }):Ë (model prog w) A (ownedTupleIsFree (.ref e)) Q E s:=by
 unfold ownedTupleIsFree;rcases ou with rfl|⟨a,rfl⟩
 ·exact À (ý he rfl (x:=.none) rfl (Ã kt))
 ·refine À (ý he rfl (x:=đ a) rfl ?_);refine À (wp_alive ?_);cases s.heap.get? a.toNat with
  |none=>exact Ã kt
  |some o=>
   refine À (ý he rfl (x:=f1) rfl ?_);cases hb:(f1 != ŋ true) with
   |true=>
    simp only[if_true];refine À (ð he (by simp) λh' g sb=>Ã (kf h' ⟨đ a,.bool true,old,.inr ⟨a,rfl⟩,g⟩ sb))
   |false=>
    simp only[Ý,if_false];exact Ã (kf s.heap ⟨_,_,_,.inr ⟨a,rfl⟩,he⟩ ⟨rfl,λ_ _=>rfl⟩)
theorem num_next{x:Æ}{Q:Æ->Ç->Prop}(he:NumR s.heap e q i)(hq:SIt s.heap true q l i)(hl:SOf s.heap true l its)(hx:its[i]?=some x)(ne:e≠q)
  (k:∀h',NumR h' e q ((i:Int)+1)->SIt h' true q l (i+1)->h'.get? s.heap.objs.size=some { cls:=.type "tuple",data:=.seq #[.int i s.toks,x] }->
   (∀b o,b≠e->b≠q->s.heap.get? b=some o->h'.get? b=some o)->Q (.ref s.heap.objs.size) { s with heap:=h',toks:=s.toks+1 }) :
  Ë (model prog w) A (Ĵ.«enumerate.__next__» ⟨[.ref e],[]⟩) (λfin s'=>∃v,fin=.done (.ret v)/\Q v s') E s:=by
 obtain ⟨hp,g,d,tk,os⟩:=s;obtain ⟨f0,f1,old,ou,he⟩:=he;show Ë _ _ (field (.ref e) 2 >>= _) _ _ _;refine À (ý he rfl (x:=.ref q) rfl (À (yau hq hl hx λm1 q1 sb1=>?_)));have sb1:ü q hp m1:=sb1;have g1:m1.get? e=some (bP f0 f1 q i old):=(sb1.2 e ne).trans he;show Ë _ _ (field (.ref e) 3 >>= _) _ _ (ν m1 g d tk os);refine À (ý g1 rfl (x:=đ i) rfl ?_);show Ë _ _ (field (.ref e) 4 >>= _) _ _ (ν m1 g d tk os);refine À (ý g1 rfl (x:=.none) rfl ?_);show Ë _ _ (mkInt i >>= _) _ _ (ν m1 g d tk os);refine À (wpAny_mkInt ?_);show Ë _ _ (setField (.ref e) 3 (đ ((i:Int)+1)) >>= _) _ _ (ν m1 g d (tk+1) os);refine À (ð g1 (by simp) λm2 g2 sb2=>?_);have sb2:ü e m1 m2:=sb2;have g2:m2.get? e=some (bP f0 f1 q ((i:Int)+1) old):=g2;show Ë _ _ (setField (.ref e) 4 .none >>= _) _ _ (ν m2 g d (tk+1) os);refine À (ð g2 (by simp) λm3 g3 sb3=>?_);have sb3:ü e m2 m3:=sb3;have g3:m3.get? e=some (bP f0 f1 q ((i:Int)+1) old):=g3;show Ë _ _ (newTuple [.int i tk,x] >>= _) _ _ (ν m3 g d (tk+1) os);refine À (Ψ ?_);have hsz:m3.objs.size=hp.objs.size:=by rw[sb3.1,sb2.1,sb1.1]
 have hel:e<hp.objs.size:=é he;have nel:hp.objs.size≠e:=ai hel;obtain ⟨m4,hm4⟩:∃m4,m3.push { cls:=.type "tuple",data:=.seq #[.int i tk,x] }=m4:=⟨_,rfl⟩;have k4:∀b o,m3.get? b=some o->m4.get? b=some o:=λb o z=>by rw[<-hm4];exact È _ z
 have g4:=k4 _ _ g3;have t4:m4.get? hp.objs.size=some { cls:=.type "tuple",data:=.seq #[.int i tk,x] }:=by rw[<-hm4,<-hsz];exact Ô _ rfl
 have kk4:∀b o,b≠e->b≠q->hp.get? b=some o->m4.get? b=some o:=λb o z1 z2 z=>k4 b o (sb3.extBut b o z1 (sb2.extBut b o z1 (sb1.extBut b o z2 z)));have q4:SIt m4 true q l (i+1):=q1.at λo z=>k4 q o (sb3.extBut q o ne.symm (sb2.extBut q o ne.symm z));have fin:∀h',NumR h' e q ((i:Int)+1)->ü e m4 h'->Q (.ref hp.objs.size) (ν h' g d (tk+1) os):=λh' n sb=>
  k h' n (q4.at λo z=>sb.extBut q o ne.symm z) (sb.extBut _ _ nel t4) λb o z1 z2 z=>sb.extBut b o z1 (kk4 b o z1 z2 z)
 show Ë _ _ (ownedTupleIsFree (.ref e) >>= _) _ _ (ν _ g d (tk+1) os);rw[hsz,hm4];clear hm4 k4 g3 sb3 g2 sb2 g1 sb1 q1;refine À (own_free g4 ou ?_ λh' n sb=>?_)
 ·simp only[if_true];refine À (Ũ (À (ý g4 rfl (x:=old) rfl ?_)));refine À (ð g4 (by simp) λm5 g5 sb5=>?_);have sb5:ü e m4 m5:=sb5;have g5:m5.get? e=some (bP f0 f1 q ((i:Int)+1) x):=g5;show Ë _ _ (ownedTupleHandOut (.ref e) (.ref hp.objs.size) >>= _) _ _ (ν m5 g d (tk+1) os);refine À ?_;unfold ownedTupleHandOut;refine À (ð g5 (by simp) λm6 g6 sb6=>?_);have sb6:ü e m5 m6:=sb6;have g6:m6.get? e=some (bP (đ hp.objs.size) f1 q ((i:Int)+1) x):=g6;refine ð g6 (by simp) λm7 g7 sb7=>?_;have sb7:ü e m6 m7:=sb7;have g7:m7.get? e=some (bP (đ hp.objs.size) (.bool false) q ((i:Int)+1) x):=g7;exact À (wpAny_letGo (Ã ⟨_,rfl,fin m7 ⟨_,_,_,.inr ⟨_,rfl⟩,g7⟩ ⟨by rw[sb7.1,sb6.1,sb5.1],λb z=>(sb7.2 b z).trans ((sb6.2 b z).trans (sb5.2 b z))⟩⟩))
 ·simp only[Ý,if_false];exact Ã ⟨_,rfl,fin h' n sb⟩
theorem num_item(he:NumR s.heap e q i)(hq:SIt s.heap true q l i)(hl:SOf s.heap true l its)(hx:its[i]?=some x)(ne:e≠q)
  (k:∀h',NumR h' e q ((i:Int)+1)->SIt h' true q l (i+1)->h'.get? s.heap.objs.size=some { cls:=.type "tuple",data:=.seq #[.int i s.toks,x] }->
   (∀b o,b≠e->b≠q->s.heap.get? b=some o->h'.get? b=some o)->Q (some (.ref s.heap.objs.size)) { s with heap:=h',toks:=s.toks+1 }) :
  Ë (model prog w) A (Ř (.ref e)) Q E s:=by
 obtain ⟨f0,f1,old,ou,g⟩:=id he;have hT:s.TypeIs (.ref e) "enumerate":=⟨_,g,rfl⟩;unfold Ř;exact À (ĩ (è (name:=Ċ "__next__") hT ak (å ak hT F.entry_enumerate_next
  (num_next he hq hl hx ne λh' a b c z=>Ã (k h' a b c z)) (F.args_enumerate_next_1 _))))
theorem num_end(hh:A.handled=none)(he:NumR s.heap e q i)(hq:SIt s.heap true q l i)(hl:SOf s.heap true l its)(hx:its[i]?=none)
  (k:∀h',Heap.ExtBut q s.heap h'->Q none { s with heap:=h' }):Ë (model prog w) A (Ř (.ref e)) Q E s:=by
 obtain ⟨f0,f1,old,ou,g⟩:=he;have hT:s.TypeIs (.ref e) "enumerate":=⟨_,g,rfl⟩;unfold Ř;refine À (ĩ (è (name:=Ċ "__next__") hT ak (å ak hT F.entry_enumerate_next ?_ (F.args_enumerate_next_1 _))));show Ë _ _ (field (.ref e) 2 >>= _) _ _ _;refine À (ý g rfl (x:=.ref q) rfl (À (ybh hh hq hl hx λh' x eb ⟨o,go,gc⟩=>?_)));exact À (Ĳ (T:="StopIteration") (b:=true) ⟨o,go,gc⟩ ae (Ã (k h' eb)))
theorem ygw(he:NumR s.heap e q j)(h:Q (.ref e) s):Ë (model prog w) A (pyIter (.ref e)) Q E s:=by
 obtain ⟨f0,f1,old,ou,g⟩:=he;have hT:s.TypeIs (.ref e) "enumerate":=⟨_,g,rfl⟩;refine wpAny_pyIter_slot hT F.slot_enumerate_iter (å F.slot_enumerate_iter hT F.entry_enumerate_iter ?_ (F.args_enumerate_iter_1 _));exact Ã ⟨_,rfl,"enumerate",_,hT,F.slot_enumerate_next.lookup,h⟩
end
noncomputable def tiO(l:Addr):Obj:={ cls:=.type "tuple_iterator",data:=.fields #[.ref l,.int 0 0] }
theorem num_new(l:Addr)(its:Array Æ) :
  Meets (Ĵ.«enumerate.__new__» ⟨[.type "enumerate",.ref l],[]⟩) (λ_ R s=>IsTup s.heap l its/\
   R (.ok (.ret (.ref (s.heap.push (tiO l)).objs.size))) { s with heap:=(s.heap.push (tiO l)).push (bP .none (.bool false) s.heap.objs.size 0 .none) }):=
 .of_wp λprog w A R s h=>by
  obtain ⟨hp,g,d,tk,os⟩:=s;obtain ⟨hT,h⟩:=h;have hT:Heap.IsTuple (Shared.heap (ν hp g d tk os)) l its:=hT;obtain ⟨o,hl,_,_⟩:=id hT;have hsub:=sub_enumerate
  wp_walk using aP hl
  refine wpAny_stack_any λst=>Ã ?_;split
  ·rename_i c _ _ _ _ _
   cases (c == Ο "enumerate")<;>(wp_walk using aP hl,wpAny_pyIter_tuple hT;exact ⟨_,rfl,h⟩)
  ·wp_walk using aP hl,wpAny_pyIter_tuple hT
   exact ⟨_,rfl,h⟩
section
variable {prog:Ü}{w:ï}{A:Ā}{E:Æ->Ç->Prop}{s:Ç}{l:Addr}{its:Array Æ}
theorem call_num(hT:IsTup s.heap l its)
  (k:∀h',NumR h' (s.heap.objs.size+1) s.heap.objs.size 0->SIt h' true s.heap.objs.size l 0->(∀b o,s.heap.get? b=some o->h'.get? b=some o)->Q (.ref (s.heap.objs.size+1)) { s with heap:=h' }) :
  Ë (model prog w) A (call (.type "enumerate") [.ref l]) Q E s:=by
 refine callType_new F.called_enumerate (by decide) (F.typeCall_enumerate_1 _) (F.newCall_enumerate_1 _) (λobj=>F.args_object_init_2 obj _) F.entry_enumerate_new (num_new l its) ⟨hT,?_⟩;have hz:(s.heap.push (tiO l)).objs.size=s.heap.objs.size+1:=Ŀ ..;have g1:((s.heap.push (tiO l)).push (bP .none (.bool false) s.heap.objs.size 0 .none)).get? (s.heap.objs.size+1)=some (bP .none (.bool false) s.heap.objs.size 0 .none):=by
  rw[<-hz];exact Ô _ rfl
 have g2:((s.heap.push (tiO l)).push (bP .none (.bool false) s.heap.objs.size 0 .none)).get? s.heap.objs.size=some (tiO l):=È _ (Ô _ rfl);have kp:∀b o,s.heap.get? b=some o->((s.heap.push (tiO l)).push (bP .none (.bool false) s.heap.objs.size 0 .none)).get? b=some o:=λb o x=>È _ (È _ x);show _/\_;rw[hz];exact ⟨⟨_,g1,rfl⟩,k _ ⟨_,_,_,.inl rfl,g1⟩ ⟨_,g2,rfl,rfl⟩ kp⟩
end
noncomputable def Itf(K:Þ)(a:Addr):It:=
 ⟨λi H=>∃xs x,SqT K H a xs/\xs[i]?=some x,λi H x H'=>∃p y,H p=none/\x=.ref p/\H'=upd H p (.tup [.int i,y])/\∀xs,SqT K H a xs->xs[i]?=some y,λi H=>∃xs,SqT K H a xs/\xs.length<=i⟩
theorem turn_num{P:Ü}{w:ï}{K:Þ}{x:Str}{tp:Pos}(a e it:Addr)(hne:e≠it) :
  Turn P w K (.Name x tp) (Itf K a) [e,it] e (λi h=>NumR h e it i/\SIt h true it a i) where
 mem:=by simp
 obj:=λi h st b hb=>by
  obtain ⟨⟨f0,f1,old,_,he⟩,hi⟩:=st;have hb':b=e\/b=it:=by simpa using hb
  rcases hb' with rfl|rfl
  ·exact ⟨_,he,λv z=>by
    have z':Data.fields _=Data.cell v:=z;cases z'⟩
  ·exact hi.obj
 keep:=λi h h' st kk=>⟨by obtain ⟨f0,f1,old,ou,g⟩:=st.1;exact ⟨f0,f1,old,ou,kk e (by simp) _ g⟩,st.2.at λo z=>kk it (by simp) o z⟩
 item:=by
  intro X hP hw hK hc i pins s σ H E I hf st hg;subst hP hw hK;obtain ⟨xs,x,hq,hx⟩:=hg;obtain ⟨its,rv,p,hz⟩:=I.tuple hq;obtain ⟨u,hu,ru⟩:=rv.get hx;obtain ⟨he,hit⟩:=st;have hel:e<s.heap.objs.size:=by obtain ⟨_,_,_,_,g⟩:=he;exact é g
  have hil:it<s.heap.objs.size:=hit.lt;refine num_item he hit (its:=its.toArray) p (x:=u) (by simpa using hu) hne λh' ho hit' hT hk=>?_;refine ⟨_,rfl,Ã ?_⟩;have keep2:∀b ob,b∉[e,it]->s.heap.get? b=some ob->h'.get? b=some ob:=λb ob hb z=>hk b ob (λq=>hb (by simp[q])) (λq=>hb (by simp[q])) z;have fresh:H s.heap.objs.size=none:=I.hok.fresh (Ò _);have new:bh X.prog X.w (upd H s.heap.objs.size (.tup [.int i,x])) h' s.heap.objs.size (.tup [.int i,x]):=
   ⟨by show 2<=Õ;decide,[.int i s.toks,u],.cons ⟨_,rfl⟩ (.cons ru .nil),⟨_,hT,rfl,_,rfl⟩⟩
  refine ⟨.ref s.heap.objs.size,upd H s.heap.objs.size (.tup [.int i,x]),I.turnedL keep2 hf (Ò _) new,rfl,⟨_,x,fresh,rfl,rfl,λys hy=>by rw[I.tuple_inj hy hq];exact hx⟩,⟨by simpa using ho,hit'⟩,λb hb=>?_⟩;rw[Δ]
  ·exact (hf b hb).1
  ·have hb':b=e\/b=it:=by simpa using hb
   rcases hb' with rfl|rfl
   ·exact ĉ hel
   ·exact ĉ hil
 done:=by
  intro X hP hw hK hc i pins s σ H E I hf st hg;subst hP hw hK;obtain ⟨xs,hq,hx⟩:=hg;obtain ⟨its,rv,p,hz⟩:=I.tuple hq;obtain ⟨he,hit⟩:=st;have hl:=rv.length;obtain ⟨f0,f1,f2,f3,f4,f5⟩:=hf it (by simp);exact num_end (I.ok.hd hc) he hit (its:=its.toArray) p (by simp;omega) λh' eb=>⟨rfl,I.turned (t':=s.toks) (λb o hb z=>eb b o hb z) f0 f1 f3 f4 f5⟩
 self:=λ_ _ _ _ _ st h=>ygw st.1 h
noncomputable def iNum(K:Þ)(ta:TA):TI:=λσ H R=>ta σ H λvs H1=>∃a xs,vs=[.ref a]/\SqT K H1 a xs/\R (Itf K a) H1
section
variable {X:Cx}
theorem pi_num{a:Expr}{ta:TA}{p pos tp:Pos}{x:Str}(hg:Gl X "enumerate")(hm:X.mg "enumerate"=none)(ha:PA X [a] ta)(hs:â [a] X.env=[(false,eval a X.env)]:=by rfl) :
  PI X (.Name x tp) (.Call (.Name "enumerate" p) [a] [] pos) (iNum X.K ta):=by
 intro pins s σ H R I h;refine Call_ (fq I hg hm boot_enumerate (ċ (thn (ha pos pins s σ H _ I h) λus s1 ⟨vs,H1,I1,r1,q1⟩=>?_) hs rfl));obtain ⟨l,xs,e,hq,q⟩:=q1;subst e;cases r1 with
 |cons r rr=>
  cases rr;cases r;obtain ⟨its,rv,pl,hz⟩:=I1.tuple hq;refine call_num (its:=its.toArray) pl λh' he hit hk=>?_;refine ygw he ⟨_,[s1.heap.objs.size+1,s1.heap.objs.size],_,Itf X.K l,H1,rfl,I1.kept (t':=s1.toks) hk,turn_num l (s1.heap.objs.size+1) s1.heap.objs.size (Nat.succ_ne_self _),⟨he,hit⟩,λb hb=>?_,q⟩;have hb':s1.heap.objs.size<=b:=by
   have hb':b=s1.heap.objs.size+1\/b=s1.heap.objs.size:=by simpa using hb
   rcases hb' with rfl|rfl
   ·exact le_succ _
   ·exact Ò _
  exact I1.fpOk hb' (I1.hok.fresh hb')
theorem ybq:Ī "sorted"=some (.builtin "sorted"):=by decide +kernel
theorem qe5:∀{us:List Æ}{ns:List Int},Ļ us ns->Vals (ns.map V.int) us
 |_,_,.nil=>.nil
 |_,_,.cons n t r=>.cons ⟨t,rfl⟩ (qe5 r)
theorem qiy:Ī "all"=some (.builtin "all"):=by decide +kernel
theorem yj2:Ī "any"=some (.builtin "any"):=by decide +kernel
noncomputable def rAllB:List V->Hp->VK->Prop:=λxs H Q=>∃(l:Addr) (bs:List Bool),xs=[.ref l]/\H l=some (.lst (bs.map V.bl))/\Q (.bl (bs.all id)) H
noncomputable def rAnyB:List V->Hp->VK->Prop:=λxs H Q=>∃(l:Addr) (bs:List Bool),xs=[.ref l]/\H l=some (.lst (bs.map V.bl))/\Q (.bl (bs.any id)) H
theorem yiw(bs:List Bool):(õ bs.length).all (λi=>bs.getD i false)=bs.all id:=by
 rw[Bool.eq_iff_iff,Û,Û];constructor
 ·intro h b hb;obtain ⟨i,hi,e⟩:=aF hb;have:=h i (mem_range.mpr hi);rw[à,Í hi]at this;rw[<-e];exact this
 ·intro h i hi;have hi':=mem_range.mp hi;rw[à,Í hi'];exact h _ (ε hi')
theorem yj7(bs:List Bool):(õ bs.length).any (λi=>bs.getD i false)=bs.any id:=by
 rw[Bool.eq_iff_iff,any_eq_true,any_eq_true];constructor
 ·rintro ⟨i,hi,h⟩;have hi':=mem_range.mp hi;rw[à,Í hi']at h;exact ⟨_,ε hi',h⟩
 ·rintro ⟨b,hb,h⟩;obtain ⟨i,hi,e⟩:=aF hb;refine ⟨i,mem_range.mpr hi,?_⟩;rw[à,Í hi,e];exact h
theorem qhd(bs:List Bool):TruthOf P w A (λi v=>(bs.map ŋ).toArray[i]?=some v) (λi=>bs.getD i false):=by
 intro i v s Q E hP hQ;have hP':(bs.map ŋ)[i]?=some v:=by simpa using hP
 rw[Ĉ]at hP';cases e:bs[i]? with
 |none=>rw[e]at hP';cases hP'
 |some b=>
  rw[e]at hP';cases hP';have hQ':Q (bs.getD i false) s:=hQ;rw[à,e]at hQ';exact Ķ hQ'
theorem qka(hc:X.calm=true):bH X (.builtin "all") rAllB:=by
 intro pins s σ H xs us Q I r h;obtain ⟨l,bs,rfl,hH,q⟩:=h;cases r with
 |cons r rr=>
  cases rr;cases r;obtain ⟨z,its,n,rv,hl,e⟩:=I.lstM hH;have hi:=rv.bls;subst hi;have hlt:l<s.heap.objs.size:=é e;refine call_all_walk (Χ (items:=(bs.map ŋ).toArray) ⟨_,e,rfl,n,rfl⟩ ⟨_,_,_,_,_,_,_,rfl,Walks.list (by simpa using I.ok.hd hc) s.heap.objs.size l (ĉ hlt) (bs.map ŋ).toArray,⟨⟨_,Ô _ rfl,rfl,rfl⟩,⟨_,È _ e,rfl,n,rfl⟩⟩,qhd bs,λh' tk hk=>?_⟩);rw[Ú,Ð,yiw];refine ⟨.bl (bs.all id),H,I.kept λb o g=>hk b o ?_ (È _ g),rfl,q⟩;intro hb;rw[ê]at hb;exact absurd (é g) (by rw[hb];exact ο _)
theorem yjx(hc:X.calm=true):bH X (.builtin "any") rAnyB:=by
 intro pins s σ H xs us Q I r h;obtain ⟨l,bs,rfl,hH,q⟩:=h;cases r with
 |cons r rr=>
  cases rr;cases r;obtain ⟨z,its,n,rv,hl,e⟩:=I.lstM hH;have hi:=rv.bls;subst hi;have hlt:l<s.heap.objs.size:=é e;refine call_any_walk (Χ (items:=(bs.map ŋ).toArray) ⟨_,e,rfl,n,rfl⟩ ⟨_,_,_,_,_,_,_,rfl,Walks.list (by simpa using I.ok.hd hc) s.heap.objs.size l (ĉ hlt) (bs.map ŋ).toArray,⟨⟨_,Ô _ rfl,rfl,rfl⟩,⟨_,È _ e,rfl,n,rfl⟩⟩,qhd bs,λh' tk hk=>?_⟩);rw[Ú,Ð,yj7];refine ⟨.bl (bs.any id),H,I.kept λb o g=>hk b o ?_ (È _ g),rfl,q⟩;intro hb;rw[ê]at hb;exact absurd (é g) (by rw[hb];exact ο _)
end
section
variable {X:Cx}{a b:Expr}{ta tb:TE}{pos:Pos}
noncomputable def rCatS(K:Þ):R2:=λx y H Q=>∃l b xs zs,x=.ref l/\y=.ref b/\SqL K H l xs/\SqL K H b zs/\xs.length+zs.length<=Õ/\∀p,H p=none->Q (.ref p) (upd H p (.lst (xs++zs)))
theorem op_catS:OpR X (Ń .Add) (rCatS X.K):=by
 intro pins s σ H x y v u Q I rx ry h;obtain ⟨l,b,xs,zs,rfl,rfl,hH,hB,hz,q⟩:=h;cases rx;cases ry;obtain ⟨vs,r,pl,_⟩:=I.list hH;obtain ⟨ws,r2,pl2,_⟩:=I.list hB;obtain ⟨⟨cls,dd,data,sl⟩,ho,hc,n,hd⟩:=pl.isList;obtain ⟨⟨cls2,dd2,data2,sl2⟩,ho2,hc2,n2,hd2⟩:=pl2.isList;simp only at hc hd hc2 hd2;subst hc hd hc2 hd2;have l1:=r.length;have l2:=r2.length;refine concat_meets ⟨_,ho,rfl⟩ ⟨_,ho2,rfl⟩ noFill_list_add seq_list_add PySem.F.slot_list_add PySem.F.entry_list_add (PySem.F.args_list_add_2 _ _) (list_addW l b vs.toArray ws.toArray n n2 dd dd2 sl sl2 (by simp;omega)) ⟨ho,ho2,?_⟩;have ea:vs.toArray++ws.toArray=(vs++ws).toArray:=by simp
 rw[ea];exact ⟨.ref _,_,I.lnew (t':=s.toks) (r.append r2) (by rw[Ó];omega),rfl,q _ I.fresh⟩
end
section
variable {κ:Type} [DecidableEq κ]
noncomputable def bi(kvs:List (κ×V))(k:κ):Option V:=(kvs.find? λkv=>decide (kv.1=k)).map (·.2)
noncomputable def aL(kvs:List (κ×V))(k:κ)(v:V):List (κ×V):=
 if (kvs.any λkv=>decide (kv.1=k))=true then kvs.map (λkv=>if kv.1=k then (kv.1,v) else kv) else kvs++[(k,v)]
theorem qec{p:κ×V}{r:List (κ×V)}{k:κ}(e:p.1=k):bi (p::r) k=some p.2:=by simp[bi,Ŋ,e]
theorem yeo{p:κ×V}{r:List (κ×V)}{k:κ}(e:¬ p.1=k):bi (p::r) k=bi r k:=by simp[bi,Ŋ,e]
theorem qd9(k:κ):∀kvs:List (κ×V),(kvs.any λkv=>decide (kv.1=k))=(bi kvs k).isSome
 |[]=>rfl
 |p::r=>by
  rw[List.any_cons];by_cases e:p.1=k
  ·simp only[qec e,decide_eq_true e,Bool.true_or,Option.isSome_some]
  ·rw[yeo e,decide_eq_false e,Bool.false_or];exact qd9 k r
theorem yba(kvs:List (κ×V))(k:κ)(v:V):(aL kvs k v).length<=kvs.length+1:=by
 unfold aL;split
 ·rw[Ð];omega
 ·rw[Ó,Ė,length_nil];omega
theorem RelO.isSome_eq(r:RelO o u):o.isSome=u.isSome:=by
 cases o with
 |none=>cases u with
  |none=>rfl
  |some _=>exact (show False from r).elim
 |some _=>cases u with
  |none=>exact (show False from r).elim
  |some _=>rfl
theorem RelO.getD(r:RelO o u)(rd:RelV d d'):RelV (o.getD d) (u.getD d'):=by
 cases o with
 |none=>cases u with
  |none=>exact rd
  |some _=>exact (show False from r).elim
 |some _=>cases u with
  |none=>exact (show False from r).elim
  |some _=>exact r
theorem KV.val{kvs:List (κ×V)}{vs:List (κ×Æ)}(r:KV kvs vs)(k:κ):RelO (bi kvs k) (valueAt vs k):=by
 unfold KV at r;induction r with
 |nil=>exact į
 |@cons p q ps qs h t ih=>
  obtain ⟨h1,h2⟩:=h;by_cases e:p.1=k
  ·have e':q.1=k:=h1.symm.trans e;have b:valueAt (q::qs) k=some q.2:=by simp[valueAt,Ŋ,e']
   rw[qec e,b];exact h2
  ·have e':¬ q.1=k:=λz=>e (h1.trans z);have b:valueAt (q::qs) k=valueAt qs k:=by simp[valueAt,Ŋ,e']
   rw[yeo e,b];exact ih
theorem KV.any(r:KV kvs vs)(k:κ):(kvs.any λkv=>decide (kv.1=k))=vs.any λkv=>decide (kv.1=k):=by
 unfold KV at r;induction r with
 |nil=>rfl
 |cons h t ih=>rw[List.any_cons,List.any_cons,ih,h.1]
theorem KV.repl(r:KV kvs vs)(k:κ){y:V}{u:Æ}(ry:RelV y u) :
  KV (kvs.map λkv=>if kv.1=k then (kv.1,y) else kv) (vs.map λkv=>if kv.1=k then (kv.1,u) else kv):=by
 unfold KV at r ⊢;induction r with
 |nil=>exact .nil
 |@cons p q ps qs h t ih=>
  rw[þ,þ];refine .cons ?_ ih;obtain ⟨h1,h2⟩:=h;by_cases e:p.1=k
  ·rw[if_pos e,if_pos (h1.symm.trans e)];exact ⟨h1,ry⟩
  ·rw[if_neg e,if_neg (λz=>e (h1.trans z))];exact ⟨h1,h2⟩
theorem KV.put(r:KV kvs vs)(k:κ){y:V}{u:Æ}(ry:RelV y u):KV (aL kvs k y) (stored vs k u):=by
 unfold aL stored;rw[r.any k];by_cases e:(vs.any λkv=>decide (kv.1=k))=true
 ·rw[if_pos e,if_pos e];exact r.repl k ry
 ·rw[if_neg e,if_neg e];exact Paired.snoc r ⟨rfl,ry⟩
theorem KV.length(r:KV kvs vs):kvs.length=vs.length:=Τ r
end
theorem yee(r:RelV (kV k) u):(bR P w).is k u=true:=by
 cases k with
 |inl i=>obtain ⟨t,e⟩:=(show ∃t,u=Ρ i t from r);subst e;exact yfx P w i t
 |inr x=>obtain ⟨t,e⟩:=(show ∃t,u=Value.str x t from r);subst e;exact yfv P w x t
theorem qfm:∀{ks:List Key}{us:List Æ},Vals (ks.map kV) us->ItemsAre (bR P w) ks us
 |[],_,r=>by rw[map_nil]at r;cases r;exact .nil
 |k::ks,_,r=>by
  rw[þ]at r;cases r with
  |cons h t=>exact .cons (yee h) (qfm t)
noncomputable abbrev KT(H:Hp):List (List Key×V)->List (List Key×Addr×Æ)->Prop:=Paired λp q=>p.1=q.1/\H q.2.1=some (.tup (p.1.map kV))/\RelV p.2 q.2.2
theorem KT.val{H:Hp}{kvs:List (List Key×V)}{xs:List (List Key×Addr×Æ)}(r:KT H kvs xs)(k:List Key):RelO (bi kvs k) ((atKey xs k).map (·.2)):=by
 induction r with
 |nil=>exact į
 |@cons p q ps qs h t ih=>
  obtain ⟨h1,_,h2⟩:=h;by_cases e:p.1=k
  ·have e':q.1=k:=h1.symm.trans e;have b:atKey (q::qs) k=some q.2:=by simp[atKey,Ŋ,e']
   rw[qec e,b];exact h2
  ·have e':¬ q.1=k:=λz=>e (h1.trans z);have b:atKey (q::qs) k=atKey qs k:=by simp[atKey,Ŋ,e']
   rw[yeo e,b];exact ih
theorem KT.repl(r:KT H kvs xs)(k:List Key){y:V}{u:Æ}(ry:RelV y u) :
  KT H (kvs.map λkv=>if kv.1=k then (kv.1,y) else kv) (xs.map (putAt k u)):=by
 induction r with
 |nil=>exact .nil
 |@cons p q ps qs h t ih=>
  rw[þ,þ];refine .cons ?_ ih;obtain ⟨h1,h2,h3⟩:=h;unfold putAt;by_cases e:p.1=k
  ·rw[if_pos e,if_pos (h1.symm.trans e)];exact ⟨h1,h2,ry⟩
  ·rw[if_neg e,if_neg (λz=>e (h1.trans z))];exact ⟨h1,h2,h3⟩
theorem KT.put(r:KT H kvs xs)(k:List Key){b:Addr}{y:V}{u:Æ}(hb:H b=some (.tup (k.map kV)))(ry:RelV y u) :
  KT H (aL kvs k y) (storedH xs k b u):=by
 have e:(kvs.any λkv=>decide (kv.1=k))=(atKey xs k).isSome:=by
  rw[qd9,(r.val k).isSome_eq,ő]
 unfold aL storedH;rw[e];by_cases q:(atKey xs k).isSome=true
 ·rw[if_pos q,if_pos q];exact r.repl k ry
 ·rw[if_neg q,if_neg q];exact Paired.snoc r ⟨rfl,hb,ry⟩
theorem KT.keeps(r:KT H kvs xs)(ht:∀b ys,H b=some (.tup ys)->H' b=some (.tup ys)):KT H' kvs xs:=
 Paired.mapP r λ_ _ z=>⟨z.1,ht _ _ z.2.1,z.2.2⟩
section
variable {P:Ü}{w:ï}{H:Hp}{h:Heap}{a:Addr}
theorem rd_of(ok:HOk P w H h)(e:Rd H a u):bh P w H h a u:=e.ok ok
theorem qf6(ok:HOk P w H h)(e:Rd H a (.dK kvs)):kvs.length<=Õ/\(a == Ħ)=false/\∃vs,KV kvs vs/\h.DictOf (bR P w) a vs:=
 show bh P w H h a (.dK kvs) from rd_of ok e
theorem dk_of(ok:HOk P w H h)(e:H a=some (.dK kvs)):kvs.length<=Õ/\(a == Ħ)=false/\∃vs,KV kvs vs/\h.DictOf (bR P w) a vs:=qf6 ok (.inl e)
theorem ye8(ok:HOk P w H h)(e:H a=some (.tup (ks.map kV))):(aC (bR P w)).is h ks a:=by
 obtain ⟨_,its,r,o,h1,h2,n,h3⟩:=(show bh P w H h a (.tup (ks.map kV)) from ok a _ e);exact ⟨o,its.toArray,n,h1,h2,h3,by simpa using qfm r⟩
theorem yht(ok:HOk P w H h)(e:Rd H a (.dT kvs)):kvs.length<=Õ/\(a == Ħ)=false/\
  ∃xs,KT H kvs xs/\h.DictOfH (aC (bR P w)) a xs:=by
 obtain ⟨z,y,xs,r,o,es,ep,h1,h2,h3,h4,h5⟩:=(show bh P w H h a (.dT kvs) from rd_of ok e);refine ⟨z,y,xs,r,o,es,ep,h1,h2,h3,h4,λx hx=>?_,h5⟩;have all:∀{l:List (List Key×V)}{m:List (List Key×Addr×Æ)},KT H l m->∀x∈m,(aC (bR P w)).is h x.1 x.2.1:=by
  intro l m q;induction q with
  |nil=>intro x hx;exact nomatch hx
  |@cons p q ps qs hq t ih=>
   intro x hx;rcases ñ.mp hx with e|hx
   ·subst e;exact ye8 ok (by rw[<-hq.1];exact hq.2.1)
   ·exact ih x hx
 exact all r x hx
theorem dt_of(ok:HOk P w H h)(e:H a=some (.dT kvs)):kvs.length<=Õ/\(a == Ħ)=false/\
  ∃xs,KT H kvs xs/\h.DictOfH (aC (bR P w)) a xs:=yht ok (.inl e)
end
noncomputable def DGet(H:Hp)(a:Addr)(y:V)(r:Option V):Prop:=
 (∃kvs k,Rd H a (.dK kvs)/\y=kV k/\r=bi kvs k)\/∃kvs k b,Rd H a (.dT kvs)/\y=.ref b/\H b=some (.tup (k.map kV))/\r=bi kvs k
noncomputable def DPut(H:Hp)(a:Addr)(y v:V)(H':Hp):Prop:=
 (∃kvs k,H a=some (.dK kvs)/\y=kV k/\kvs.length<Õ/\H'=upd H a (.dK (aL kvs k v)))\/
 ∃kvs k b,H a=some (.dT kvs)/\y=.ref b/\H b=some (.tup (k.map kV))/\kvs.length<Õ/\H'=upd H a (.dT (aL kvs k v))
theorem DGet.k{H:Hp}{a:Addr}{kvs:List (Key×V)}{k:Key}(e:H a=some (.dK kvs)):DGet H a (kV k) (bi kvs k):=.inl ⟨kvs,k,.inl e,rfl,rfl⟩
theorem DPut.k{H:Hp}{a:Addr}{kvs:List (Key×V)}{k:Key}{v:V}(e:H a=some (.dK kvs))(hl:kvs.length<Õ):DPut H a (kV k) v (upd H a (.dK (aL kvs k v))):=.inl ⟨kvs,k,e,rfl,hl,rfl⟩
section
variable {X:Cx}{pins:List (Addr×Obj)}{σ:St}{H:Hp}{s:Ç}{a:Addr}{y v:V}{u r:Æ}{o:Option V}{A:Ā}{E:Æ->Ç->Prop}
theorem Inv.big(I:Inv X pins σ H s):Ħ<s.heap.objs.size:=by
 have h:ù<s.heap.objs.size:=(I.mod.glob.keeps I.bk).lt;exact Nat.lt_trans (by decide) h
theorem yj4(hu:A.units+1<Ž)(I:Inv X pins σ H s)(g:DGet H a y (some v))(ry:RelV y u)(h:∀w' s',Inv X pins σ H s'->RelV v w'->Q w' s') :
  Ë (model X.prog X.w) A (getItem (.ref a) u) Q E s:=by
 rcases g with ⟨kvs,k,e,ey,l⟩|⟨kvs,k,b,e,ey,eb,l⟩
 ·subst ey;obtain ⟨z,hd,vs,rel,dd⟩:=qf6 I.hok e;obtain ⟨w',hw,rw'⟩:=RelO.some_of (v:=v) (o:=valueAt vs k) (by rw[l];exact rel.val k);exact wpAny_getItem_of (yee ry) dd.mapOf hw (h w' _ (I.tok _) rw')
 ·subst ey;cases (show u=ã b from ry);obtain ⟨z,hd,xs,rel,dd⟩:=yht I.hok e;obtain ⟨w',hw,rw'⟩:=RelO.some_of (v:=v) (o:=(atKey xs k).map (·.2)) (by rw[l];exact rel.val k);obtain ⟨p,hp,hp2⟩:=Á.mp hw;refine wpAny_getItem_heap (bg hu) (ye8 I.hok eb) dd hp ?_;rw[hp2];exact h w' _ (I.tok _) rw'
theorem d_in(hu:A.units+1<Ž)(I:Inv X pins σ H s)(g:DGet H a y o)(ry:RelV y u)(h:∀s',Inv X pins σ H s'->Q (.bool o.isSome) s') :
  Ë (model X.prog X.w) A (ĕ .In u (.ref a)) Q E s:=by
 rcases g with ⟨kvs,k,e,ey,l⟩|⟨kvs,k,b,e,ey,eb,l⟩
 ·subst ey;obtain ⟨z,hd,vs,rel,dd⟩:=qf6 I.hok e;refine wpAny_in_of (yee ry) hd dd.mapOf ?_;rw[<-(rel.val k).isSome_eq,<-l];exact h _ (I.tok _)
 ·subst ey;cases (show u=ã b from ry);obtain ⟨z,hd,xs,rel,dd⟩:=yht I.hok e;refine wpAny_in_heap (bg hu) (ye8 I.hok eb) hd dd ?_;have q:=(rel.val k).isSome_eq;rw[ő]at q;rw[<-q,<-l];exact h _ (I.tok _)
theorem d_notIn(hu:A.units+1<Ž)(I:Inv X pins σ H s)(g:DGet H a y o)(ry:RelV y u)(h:∀s',Inv X pins σ H s'->Q (.bool (!o.isSome)) s') :
  Ë (model X.prog X.w) A (ĕ .NotIn u (.ref a)) Q E s:=by
 rcases g with ⟨kvs,k,e,ey,l⟩|⟨kvs,k,b,e,ey,eb,l⟩
 ·subst ey;obtain ⟨z,hd,vs,rel,dd⟩:=qf6 I.hok e;refine wpAny_notIn_of (yee ry) hd dd.mapOf ?_;rw[<-(rel.val k).isSome_eq,<-l];exact h _ (I.tok _)
 ·subst ey;cases (show u=ã b from ry);obtain ⟨z,hd,xs,rel,dd⟩:=yht I.hok e;refine wpAny_notIn_heap (bg hu) (ye8 I.hok eb) hd dd ?_;have q:=(rel.val k).isSome_eq;rw[ő]at q;rw[<-q,<-l];exact h _ (I.tok _)
theorem qcq(I:Inv X pins σ H s)(mu:Mut (H a))(hs:ü a s.heap h')(he:∃q,h'.get? a=some q)(new:bh X.prog X.w (upd H a ob) h' a ob) :
  Inv X pins σ (upd H a ob) { s with heap:=h',toks:=t' }:=
 I.write (x:=a) (e:=a) mu (.inl rfl) (λb q hb z=>(hs.2 b hb).trans z) he new
theorem qjv(z:kvs.length<=Õ)(hd:(a == Ħ)=false)(rel:KV kvs vs)(dd:h'.DictOf (bR P w) a vs) :
  bh P w H' h' a (.dK kvs):=⟨z,hd,vs,rel,dd⟩
theorem yjl(hu:A.units+1<Ž)(I:Inv X pins σ H s)(g:DPut H a y v H')(ry:RelV y u)(rv:RelV v r)(h:∀s',Inv X pins σ H' s'->Q () s') :
  Ë (model X.prog X.w) A (setItem (.ref a) u r) Q E s:=by
 rcases g with ⟨kvs,k,e,ey,l,eH⟩|⟨kvs,k,b,e,ey,eb,l,eH⟩
 ·subst ey eH;obtain ⟨z,hd,vs,rel,dd⟩:=dk_of I.hok e;have hz:vs.length<=Õ:=by rw[<-rel.length];exact z
  have hl:(aL kvs k v).length<=Õ:=by have:=yba kvs k v;omega
  refine wpAny_setItem_pairs (hsz:=hz) (yee ry) dd λh' dd' hs=>h _ ?_;have he:∃q,h'.get? a=some q:=let ⟨q,_,_,hq,_⟩:=dd';⟨q,hq⟩;exact qcq I (by rw[e];exact į) hs he (qjv hl hd (rel.put k rv) dd')
 ·subst ey eH;cases (show u=ã b from ry);obtain ⟨z,hd,xs,rel,dd⟩:=dt_of I.hok e;have hz:xs.length<=Õ:=by rw[<-Τ rel];exact z
  have hl:(aL kvs k v).length<=Õ:=by have:=yba kvs k v;omega
  refine wpAny_setItem_heap (hsz:=hz) (bg hu) (ye8 I.hok eb) dd λh' dd' hs=>h _ ?_;obtain ⟨q,es,ep,hq,h2,h3,h4,_,h5⟩:=dd';refine qcq I (by rw[e];exact į) hs ⟨q,hq⟩ ⟨hl,hd,_,(rel.put k eb rv).keeps λc ys ec=>?_,q,es,ep,hq,h2,h3,h4,h5⟩;rw[Δ (ne_of ec e (λz=>nomatch z))];exact ec
end
theorem qgc(I:Inv X pins σ H s)(g:DGet H a y o):s.TypeIs (.ref a) "dict":=by
 rcases g with ⟨kvs,k,e,_,_⟩|⟨kvs,k,b,e,_,_,_⟩
 ·obtain ⟨_,_,vs,_,dd⟩:=qf6 I.hok e;exact dd.typeIs
 ·obtain ⟨_,_,xs,_,dd⟩:=yht I.hok e;exact dd.typeIs
theorem qgb(I:Inv X pins σ H s)(g:DGet H a y o) :
  ∀b,ã a=.ref b->∃ob,s.heap.get? b=some ob/\ob.dict=none:=λb q=>by
 cases q;rcases g with ⟨kvs,k,e,_,_⟩|⟨kvs,k,b,e,_,_,_⟩
 ·obtain ⟨_,_,vs,_,ob,_,_,h1,h2,_⟩:=qf6 I.hok e;exact ⟨ob,h1,h2.2.1⟩
 ·obtain ⟨_,_,xs,_,ob,_,_,h1,h2,_⟩:=yht I.hok e;exact ⟨ob,h1,h2.2.1⟩
theorem qhf(h:Heap)(hb:Ħ<h.objs.size):bh P w H (h.push { cls:=.type "dict",data:=.dict #[] }) h.objs.size (.dK []):=
 ⟨ķ _,beq_eq_false_iff_ne.mpr (ń (ĉ hb)),[],.nil,Heap.DictOf.new h⟩
noncomputable def tDNewK:TE:=λ_ H Q=>∀p,H p=none->Q (.ref p) (upd H p (.dK []))
section
variable {X:Cx}{pos:Pos}
theorem pe_dnewK:PE X (.Dict [] [] pos) tDNewK:=λpins s σ H Q I h=>
 wpAny_Dict_empty ⟨.ref s.heap.objs.size,_,I.laid (a:=s.heap.objs.size) (o:=.dK []) (t':=s.toks) (λ_ _ q=>È _ q) (Ò _) (qhf s.heap I.big),rfl,h _ (I.hok.fresh (Ò _))⟩
end
noncomputable def ygt:List (TE×TE)->St->Hp->(List (V×V)->Hp->Prop)->Prop
 |[],_,H,Q=>Q [] H
 | (tk,tv)::r,σ,H,Q=>tk σ H λx H1=>tv σ H1 λy H2=>ygt r σ H2 λps H3=>Q ((x,y)::ps) H3
noncomputable abbrev VV:List (V×V)->List (Æ×Æ)->Prop:=Paired λp q=>RelV p.1 q.1/\RelV p.2 q.2
noncomputable def PPs(X:Cx)(pos:Pos)(keys:List (Option Expr))(values:List Expr)(trs:List (TE×TE)):Prop:=
 ∀(pins:List (Addr×Obj)) (s:Ç) (σ:St) (H:Hp) (Q:List (V×V)->Hp->Prop),Inv X pins σ H s->ygt trs σ H Q->
  Ë (model X.prog X.w) X.A (evalPairs (pairTrees keys values X.env pos)) (λvs s'=>∃ps H',Inv X pins σ H' s'/\VV ps vs/\Q ps H') X.xe s
theorem pps_nil:PPs X pos [] [] []:=λpins s σ H Q I h=>pairTrees_nil_walk ⟨[],H,I,.nil,h⟩
theorem pps_cons(hk:PE X k tk)(hv:PE X v tv)(hr:PPs X pos ks vs trs) :
  PPs X pos (some k::ks) (v::vs) ((tk,tv)::trs):=λpins s σ H Q I h=>
 pairTrees_cons_walk (thn (hk pins s σ H _ I h) λu s1 ⟨x,H1,I1,rx,q1⟩=>thn (hv pins s1 σ H1 _ I1 q1) λw2 s2 ⟨y,H2,I2,ry,q2⟩=>
  thn (hr pins s2 σ H2 _ I2 q2) λws s3 ⟨ps,H3,I3,rel,q3⟩=>⟨(x,y)::ps,H3,I3,.cons ⟨rx,ry⟩ rel,q3⟩)
noncomputable def qdw(kvs more:List (Key×V)):List (Key×V):=more.foldl (λacc kv=>aL acc kv.1 kv.2) kvs
theorem KV.merge:∀{more:List (Key×V)}{rs:List (Key×Æ)}{kvs:List (Key×V)}{vs:List (Key×Æ)},KV more rs->KV kvs vs->KV (qdw kvs more) (merged vs rs):=by
 intro more rs kvs vs r;unfold KV at r;induction r generalizing kvs vs with
 |nil=>intro q;exact q
 |@cons p q ps qs h t ih=>
  intro r0;have e:KV (aL kvs p.1 p.2) (stored vs q.1 q.2):=by
   have:=r0.put p.1 h.2;rw[<-h.1];exact this
  exact ih e
theorem ycc:∀(more kvs:List (Key×V)),(qdw kvs more).length<=kvs.length+more.length
 |[],kvs=>by show kvs.length<=kvs.length+0;omega
 |p::r,kvs=>by
  have h1:=ycc r (aL kvs p.1 p.2);have h2:=yba kvs p.1 p.2;show (qdw (aL kvs p.1 p.2) r).length<=_;rw[Ė];omega
theorem yd5:∀{kvs:List (Key×V)}{ws:List (Æ×Æ)},VV (kvs.map λkv=>(kV kv.1,kv.2)) ws->∃rs,Carries (bR P w) ws rs/\KV kvs rs
 |[],_,r=>by rw[map_nil]at r;cases r;exact ⟨[],į,.nil⟩
 |p::kvs,_,r=>by
  rw[þ]at r;cases r with
  |@cons a b as bs h t=>
   obtain ⟨rs,c,q⟩:=yd5 (P:=P) (w:=w) t;obtain ⟨b1,b2⟩:=b;exact ⟨(p.1,b2)::rs,⟨yee h.1,rfl,c⟩,.cons ⟨rfl,h.2⟩ q⟩
noncomputable def tDisp(trs:List (TE×TE)):TE:=λσ H Q=>∀p,H p=none->ygt trs σ (upd H p (.dK [])) λps H2=>H2 p=some (.dK [])/\∃kvs:List (Key×V),ps=kvs.map (λkv=>(kV kv.1,kv.2))/\kvs.length<=15/\Q (.ref p) (upd H2 p (.dK (qdw [] kvs)))
theorem pe_disp(h:PPs X pos keys values trs)(hall:keys.all (·.isSome)=true)(hl:keys.length=values.length)(h0:keys≠[])
  (h15:keys.length<=15):PE X (.Dict keys values pos) (tDisp trs):=by
 intro pins s σ H Q I q;have hn:=I.hok.fresh (Ò s.heap.objs.size);have I1:=I.laid (a:=s.heap.objs.size) (o:=.dK []) (h':=s.heap.push { cls:=.type "dict",data:=.dict #[] }) (t':=s.toks) (λ_ _ q=>È _ q) (Ò _) (qhf s.heap I.big);refine wpAny_Dict_walk (knd:=bR X.prog X.w) hall hl h0 h15 (thn (h pins _ σ _ _ I1 (q _ hn)) λws s2 ⟨ps,H2,I2,rel,e,kvs,ep,lk,q2⟩=>?_);subst ep;obtain ⟨rs,c,rk⟩:=yd5 (P:=X.prog) (w:=X.w) rel;obtain ⟨z,hd,vs0,r0,dd⟩:=dk_of I2.hok e;cases r0;refine ⟨rs,c,dd,λh' dd' hs=>⟨.ref s.heap.objs.size,_,?_,rfl,q2⟩⟩;have hz:(qdw [] kvs).length<=Õ:=by
  have h1:=ycc kvs [];rw[length_nil]at h1;rw[sizeLine_eq];omega
 have he:∃q,h'.get? s.heap.objs.size=some q:=let ⟨q,_,_,hq,_⟩:=dd';⟨q,hq⟩;exact qcq I2 (by rw[e];exact į) hs he (qjv hz hd (rk.merge .nil) dd')
end L2
namespace Mx
open PySem L2 PyProof.Rows
noncomputable def qjr(K:Þ)(C:Addr)(m qual:Str)(st:Stmt)(ps:List Str):Prop:=∃f fd,Meth K C m f/\Fun K m qual st f fd/\dA K fd ps []
noncomputable def HasM(P:Ü)(w:ï)(K:Þ)(mg:Str->Option Æ)(base:Heap)(C:Addr)(k:Nat)(m:Str)(ps:List Str)(sp:Sp):Prop:=
 ∃f fd,Meth K C m f/\dA K fd ps []/\FnOk P w K mg base CX0 k f fd ps sp
noncomputable def HasI(P:Ü)(w:ï)(K:Þ)(mg:Str->Option Æ)(base:Heap)(C:Addr)(k:Nat)(x:Str)(ps:List Str)(sp:Sp):Prop:=
 ∃f fd,mg x=some (.ref C)/\Mk K C f/\dA K fd ps []/\FnOk P w K mg base CX0 k f fd ps sp
section
variable {P:Ü}{w:ï}{K:Þ}{mg:Str->Option Æ}{base:Heap}{C:Addr}
theorem HasI.of{x m:Str}{ps:List Str}{k:Nat}{sp:Sp}{f:Addr}(hm:mg x=some (.ref C))(M:Mk K C f)(u:∀g,Meth K C "__init__" g->g=f)(h:HasM P w K mg base C k "__init__" ps sp):HasI P w K mg base C k x ps sp:=by
 obtain ⟨g,fd,h1,h2,h3⟩:=h;have:=u g h1;subst this;exact ⟨g,fd,hm,M,h2,h3⟩
theorem meth_un{m:Str}{f g:Addr}(a:ũ K (.ref C) m=some (some (.ref f)))(b:Meth K C m g):g=f:=by
 have:=b.at_;rw[a]at this;cases this;rfl
end
end Mx
namespace L2
open PySem PySem.Spec PyProof.Rows
noncomputable def qfp(n:Nat):List V:=(õ n).map λi:Nat=>V.int i
theorem qht:∀{n:Nat}{acc:Array Æ},ItemsOf (λi v=>∃t,v=Ρ (0+(i:Int)*1) t) acc n->Vals (qfp n) acc.toList:=by
 intro n acc h;have go:∀(k:Nat) (l:List Æ),(∀(j:Nat) v,l[j]?=some v->∃t,v=Ρ ((k+j:Nat):Int) t)->Vals ((List.range' k l.length).map λi:Nat=>V.int i) l:=by
  intro k l;induction l generalizing k with
  |nil=>intro _;exact .nil
  |cons v l ih=>
   intro hj;obtain ⟨t,rfl⟩:=hj 0 v rfl;rw[Ė,List.range'_succ,þ];refine .cons ⟨t,by simp⟩ (ih (k+1) λj v hv=>?_);obtain ⟨t,e⟩:=hj (j+1) v (by simpa using hv);exact ⟨t,by rw[e];congr 1;omega⟩
 have:=go 0 acc.toList λj v hv=>by
  obtain ⟨t,e⟩:=h.2 j v (by simpa using hv);exact ⟨t,by rw[e];congr 1;omega⟩
 have hl:acc.toList.length=n:=by rw[ä];exact h.1
 rw[hl]at this;unfold qfp;rw[List.range_eq_range'];exact this
section
variable {X:Cx}
noncomputable def tLR(ta:TA):TE:=λσ H Q=>ta σ H λvs H1=>∃n:Nat,vs=[.int (n:Int)]/\n<=1000/\∀l,H1 l=none->Q (.ref l) (upd H1 l (.lst (qfp n)))
theorem yfq{a:Expr}{ta:TA}{p p2 pos pos2:Pos}(hh:X.A.handled=none)(hgl:Gl X "list")(hml:X.mg "list"=none)(hgr:Gl X "range")(hmr:X.mg "range"=none)(ha:PA X [a] ta)
  (hs:â [a] X.env=[(false,eval a X.env)]:=by rfl)
  (hs2:â [.Call (.Name "range" p2) [a] [] pos2] X.env=[(false,eval (.Call (.Name "range" p2) [a] [] pos2) X.env)]:=by rfl) :
  PE X (.Call (.Name "list" p) [.Call (.Name "range" p2) [a] [] pos2] [] pos) (tLR ta):=by
 intro pins s σ H Q I h;refine Call_ (fq I hgl hml boot_list (ċ ?_ hs2 rfl));rw[hs2];show Ë _ _ (spliced ((false,eval (.Call (.Name "range" p2) [a] [] pos2) X.env)::ľ pos (â [] X.env))) _ _ s;refine Calls.spliced_cons ?_;refine Call_ (fq I hgr hmr boot_range (ċ (thn (ha pos2 pins s σ H _ I h) λus s1 ⟨vs,H1,I1,r1,q1⟩=>?_) hs rfl));obtain ⟨n,e,hn,q⟩:=q1;subst e;obtain ⟨u,rfl,r⟩:=qfk r1;obtain ⟨t,rfl⟩:=r;refine call_range_1 ?_;refine Calls.spliced_nil ?_;have I2:Inv X pins σ H1 { s1 with heap:=s1.heap.push { cls:=.type "range",data:=.fields #[.int 0 s1.toks,.int n t,.int 1 (s1.toks+1)] },toks:=s1.toks+1+1 }:=I1.kept λb o e=>È _ e;refine call_list_range (n:=n) hh (IsRange.new ..) (small_one (by omega) (by omega) (by omega) (by omega)) (by rw[rangeSize_one];split<;>omega) (by omega) λh' tk acc' c' kp e hi=>?_;have r':=qht hi;have hl:(qfp n).length=n:=by simp[qfp]
 exact ⟨.ref _,_,I2.laid (t':=tk) kp (Ò _) (show bh X.prog X.w _ h' _ (.lst (qfp n)) from ⟨by rw[hl];exact Ğ hn (by decide),acc'.toList,c',r',by simpa using e⟩),rfl,q _ (I2.hok.fresh (Ò _))⟩
noncomputable def tSl3(K:Þ)(te ts:TE):TE:=λσ H Q=>te σ H λx H1=>ts σ H1 λy H2=>∃(a:Addr) (xs:List V) (up:Bool),x=.ref a/\SqL K H2 a xs/\y=.int (if up=true then 1 else -1)/\∀p,H2 p=none->Q (.ref p) (upd H2 p (.lst (if up=true then xs else xs.reverse)))
theorem pick_rev(items:Array Æ):slicePick items none none (some (-1))=items.toList.reverse.toArray:=W.krv_pick items
theorem Vals.rev{xs:List V}{us:List Æ}(h:Vals xs us):Vals xs.reverse us.reverse:=by
 induction h with
 |nil=>exact .nil
 |cons r t ih=>rw[List.reverse_cons,List.reverse_cons];exact Vals.append ih (.cons r .nil)
theorem qir{e st:Expr}{te ts:TE}{p2 pos:Pos}(he:PE X e te)(hst:PE X st ts):PE X (.Subscript e (.Slice none none (some st) p2) pos) (tSl3 X.K te ts):=by
 intro pins s σ H Q I h;refine Subscript_ (thn (he pins s σ H _ I h) λv s1 ⟨x,H1,I1,r1,q1⟩=>?_);refine wpAny_Slice ?_;rw[evalPart_none];refine Ã (Ã ?_);rw[evalPart_some];refine thn (hst pins s1 σ H1 _ I1 q1) λvs s3 ⟨y,H3,I3,r3,q3⟩=>?_;obtain ⟨a,xs,up,rfl,hx,hy,q⟩:=q3;cases r1;have I4:Inv X pins σ H3 { s3 with heap:=s3.heap.push { cls:=.type "slice",data:=.fields #[.none,.none,vs] } }:=I3.kept (t':=s3.toks) λb ob q=>È _ q;obtain ⟨its,r,ht,hz⟩:=I4.list hx;have hlen:=r.length;have fin:∀(k:Int) (zs:List V) (us:List Æ),y=.int k->k≠0->slicePick its.toArray none none (some k)=us.toArray->Vals zs us->zs.length<=Õ->(∀p,H3 p=none->Q (.ref p) (upd H3 p (.lst zs)))->
   Ë (model X.prog X.w) X.A (subscriptTail e (.Slice none none (some st) p2) (.ref a) (.ref s3.heap.objs.size)) (EP X pins σ Q) X.xe { s3 with heap:=s3.heap.push { cls:=.type "slice",data:=.fields #[.none,.none,vs] } }:=by
  intro k zs us hy hk hp hv hzl q;subst hy;obtain ⟨t,rfl⟩:=r3;refine tail_any (ops:=[.ref a,.ref s3.heap.objs.size]) ht.isList.typeIs cO.lookup ?_ (by with_unfolding_all rfl);refine wpAny_getItem_list_slice ht.isList (Heap.IsSliceOf.new ..) .none .none (.int k t) (by simpa using hk) ?_ (by rw[Ú]<;>omega);rw[hp];refine ⟨.ref _,_,I4.laid (t':=s3.toks) (o:=.lst zs) (λb ob q=>È _ q) (Ò _) ?_,rfl,q _ (I4.hok.fresh (Ò _))⟩;exact ⟨hzl,us,0,hv,Ô _ rfl⟩
 cases up with
 |true=>exact fin 1 xs its hy (by decide) (by show slicePick its.toArray none none none=_;rw[slicePick_all]) r hz q
 |false=>exact fin (-1) xs.reverse its.reverse hy (by decide) (by rw[pick_rev]) (Vals.rev r) (by rw[List.length_reverse];exact hz) q
end
end L2
namespace L2
open PySem PySem.Spec PyProof.Rows PySem.W
noncomputable def tyD:Â->Æ
 |.none=>.type "NoneType"
 |.bool _=>.type "bool"
 |.int _=>.type "int"
 |.str _=>.type "str"
 |.list _=>.type "list"
 |.tuple _=>.type "tuple"
 |.dict _=>.type "dict"
end L2
namespace L2
open PySem PySem.Spec PyProof.Rows
theorem yff:entryFor table "zip.__getattribute__"=some Ĵ.«object.__getattribute__»:=by kernel_rfl
theorem yf2:typeLookup (.type "zip") (Ċ "keys")=pure none:=am_miss_of_fast (by decide +kernel)
theorem yf1:typeLookup (.type "zip") (Ċ "__getattr__")=pure none:=am_miss_of_fast (by decide +kernel)
theorem zip_ga:typeLookup (.type "zip") (Ċ "__getattribute__")=pure (some (.builtin "zip.__getattribute__")):=by rw[typeLookup_type,aq];kernel_rfl
theorem qbs:entryFor table "dict.update.loop"=some Ĵ.«dict.update.loop»:=by kernel_rfl
theorem yay:plainId "dict.update.loop"=true:=by decide +kernel
theorem qg1:isSubtype (.type "AttributeError") (.type "AttributeError")=pure true:=by rw[isSubtype_type];kernel_rfl
section
variable {P:Ü}{w:ï}{A:Ā}{E:Æ->Ç->Prop}{s:Ç}
theorem zipKeys(gz:IsZip s.heap z i o v)(hh:A.handled=none)
  (k:∀(h':Heap) (tk:Nat),(∀b o,s.heap.get? b=some o->h'.get? b=some o)->Q none { s with heap:=h',toks:=tk }) :
  Ë (model P w) A (getAttr? (.ref z) (Ċ "keys")) Q E s:=by
 unfold getAttr? getAttrBy? mkText;refine À (À (wpAny_fresh ?_));refine Ã ?_;generalize hs:({ s with toks:=s.toks+1 }:Ç)=s0;have gz0:IsZip s0.heap z i o v:=by rw[<-hs];exact gz
 have hT0:s0.TypeIs (.ref z) "zip":=⟨_,gz0,rfl⟩;have leaves:∀(h':Heap) (tk:Nat) (e:Addr),s0.heap.NewAttrErr h' e (.ref z) (Ċ "keys")->Ë (model P w) A (do
   let b <-isInstance (.ref e) (.type "AttributeError")
   if b=true then pure none else throw (.ref e)) Q E { s0 with heap:=h',toks:=tk }:=λh' tk e ne=>by
  obtain ⟨t,u,he⟩:=ne.there;refine À (Ĳ (T:="AttributeError") (b:=true) ⟨_,he,rfl⟩ qg1 ?_);refine Ã ?_;have:=k h' tk (λb o g=>ne.keeps b o (by rw[<-hs];exact g));subst hs;exact this
 refine À (ĩ ?_);unfold getAttrBy;refine î ?_;refine À (θ hT0 ?_);refine À (Ť zip_ga ?_);show Ë _ _ (getAttrByItsOwn _ _ _ _ _ _) _ _ _;unfold getAttrByItsOwn;refine À (Ť (a:=none) (by rfl) ?_);refine À (ĩ (î ?_));show Ë _ _ (boundAndCalled _ _ _) _ _ _;unfold boundAndCalled;refine À (Ť (a:=((Value.builtin "zip.__getattribute__"),[ã z])) (by kernel_rfl) ?_);show Ë _ _ (call (.builtin "zip.__getattribute__") [.ref z,.str _ _]) _ _ _;refine å F.slot_zip_getattribute hT0 yff ?_ (F.args_zip_getattribute_2 _ _);have h1:=yf2;unfold Ĵ.«object.__getattribute__»
 wp_walk
 refine wpAny_raiseAttrError (A:=A.in1) hh (λh' tk e ne=>?_) (by decide +kernel);obtain ⟨t,u,he⟩:=id ne.there;have hT1:ź { s0 with heap:=h',toks:=tk } (.ref e) "AttributeError":=⟨_,he,rfl⟩;unfold getattributeRaised;refine À (Ĳ (T:="AttributeError") (b:=true) hT1 qg1 ?_);rw[if_pos rfl];refine À (m:=hookBehind _ _) (Ť yf1 ?_);unfold hookOrError;dsimp only;unfold attributeErrorLeaves;refine À (m:=throw (ã e)) (wpAny_throw ?_);exact leaves h' tk e ne
end
open Builtin.SmallTypes (nextOf)
section
variable {prog:Ü}{w:ï}{A:Ā}{E:Æ->Ç->Prop}{s:Ç}
noncomputable abbrev qdp(h:Heap)(z TI TO:Addr)(f0:Æ)(fl:Bool):Prop:=h.get? z=some { cls:=.type "zip",data:=.fields #[f0,.bool fl,.bool false,.ref TI,.ref TO] }
theorem yea(g:s.heap.get? a=some o)(k:Q (some o) s):Ë M A (loadIfAlive a) Q E s:=by
 intro Γ p hi;unfold loadIfAlive;rw[Sem.wp_loadIfAlive,g];exact k
theorem qjf{z TI TO T:Addr}{fl:Bool}{Q:Bool->Ç->Prop}(gz:qdp s.heap z TI TO (đ T) fl)(gT:∃o,s.heap.get? T=some o)(k:∀h',qdp h' z TI TO (đ T) true->ü z s.heap h'->Q false { s with heap:=h' }) :
  Ë (model prog w) A (ÿ (.ref z)) Q E s:=by
 obtain ⟨o,gT⟩:=gT;unfold ÿ;refine À (ý gz rfl (x:=đ T) rfl ?_);show Ë _ _ (loadIfAlive (T:Int).toNat >>= _) _ _ _;refine À (yea (by rw[aJ];exact gT) ?_);show Ë _ _ (field (.ref z) 1 >>= _) _ _ _;refine À (ý gz rfl (x:=.bool fl) rfl ?_);cases fl with
 |false=>
  refine À (m:=setField (.ref z) 1 (.bool true)) (ð gz (by simp) λm1 gz1 e1=>?_);exact Ã (k m1 gz1 e1)
 |true=>
  exact Ã (k s.heap gz (Heap.SameBut.refl _ _))
theorem zipNext2{n l1 l2 k T:Nat}{fl:Bool}{xs ys:Array Æ}{x y:Æ}{t1 t2:Bool}{Q:Æ->Ç->Prop}(b1:l1<n)(b2:l2<n)(gz:qdp s.heap (n+4) (n+2) (n+3) (đ T) fl)(gi:ų s.heap (n+2) (.ref n) (.ref (n+1)))(gT:∃o,s.heap.get? T=some o)
  (q1:SIt s.heap t1 n l1 k) (q2:SIt s.heap t2 (n+1) l2 k) (o1:SOf s.heap t1 l1 xs) (o2:SOf s.heap t2 l2 ys) (hx:xs[k]?=some x) (hy:ys[k]?=some y)
  (kk:∀h',qdp h' (n+4) (n+2) (n+3) (đ T) true->SIt h' t1 n l1 (k+1)->SIt h' t2 (n+1) l2 (k+1)->ų h' s.heap.objs.size x y->
   (∀c o,c≠n+4->c≠n->c≠n+1->s.heap.get? c=some o->h'.get? c=some o)->Q (.ref s.heap.objs.size) { s with heap:=h' }) :
  Ë (model prog w) A (Ĵ.«zip.__next__» ⟨[.ref (n+4)],[]⟩) (λfin s'=>∃v,fin=.done (.ret v)/\Q v s') E s:=by
 show Ë _ _ (field (.ref (n+4)) 2 >>= _) _ _ _;refine À (ý gz rfl (x:=.bool false) rfl ?_);show Ë _ _ (field (.ref (n+4)) 3 >>= _) _ _ _;refine À (ý gz rfl (x:=.ref (n+2)) rfl ?_);refine À (ē gi rfl ?_);show Ë _ _ (ÿ (.ref (n+4)) >>= _) _ _ _;refine À (qjf gz gT λm1 gz1 e1=>?_);rw[if_neg ú];simp only[List.forIn_toArray,forIn_cons,forIn_nil];refine À (À (À (î ?_)));show Ë _ _ (nextOf (.ref n) >>= _) _ _ _;refine À (yau (q1.at λo g=>e1.extBut _ _ (ş (by omega)) g) (o1.at λo g=>e1.extBut _ _ (ş (by omega)) g) hx λm2 r1 e2=>?_);refine Ã (Ã ?_);refine À (À (î ?_));show Ë _ _ (nextOf (.ref (n+1)) >>= _) _ _ _;refine À (yau (q2.at λo g=>e2.extBut _ _ (ş (by omega)) (e1.extBut _ _ (ş (by omega)) g)) (o2.at λo g=>e2.extBut _ _ (ş (by omega)) (e1.extBut _ _ (ş (by omega)) g)) hy λm3 r2 e3=>?_);refine Ã (Ã (Ã ?_));show Ë _ _ (newTuple [x,y] >>= _) _ _ _;refine À (Ψ ?_);have hsz:m3.objs.size=s.heap.objs.size:=by rw[e3.1,e2.1,e1.1]
 have gz3:qdp m3 (n+4) (n+2) (n+3) (đ T) true:=e3.extBut _ _ (ş (by omega)) (e2.extBut _ _ (ş (by omega)) gz1);have r1':SIt m3 t1 n l1 (k+1):=r1.at λo g=>e3.extBut _ _ (ş (by omega)) g;have up:∀c o,m3.get? c=some o->(m3.push { cls:=.type "tuple",data:=.seq #[x,y] }).get? c=some o:=λc o g=>È _ g;refine Ã ⟨_,rfl,?_⟩;have gt:ų (m3.push { cls:=.type "tuple",data:=.seq #[x,y] }) m3.objs.size x y:=Ô _ rfl;show Q (.ref m3.objs.size) _;rw[hsz]at gt ⊢;exact kk _ (up _ _ gz3) (r1'.at λo g=>up _ o g) (r2.at λo g=>up _ o g) gt λc o d1 d2 d3 g=>up c o (e3.extBut _ _ d3 (e2.extBut _ _ d2 (e1.extBut _ _ d1 g)))
theorem zipDone2{n l1 l2 k T:Nat}{fl:Bool}{xs ys:Array Æ}{t1 t2:Bool}{Q:Fin->Ç->Prop}(hh:A.handled=none)(b1:l1<n)(b2:l2<n)(gz:qdp s.heap (n+4) (n+2) (n+3) (đ T) fl)(gi:ų s.heap (n+2) (.ref n) (.ref (n+1)))(gT:∃o,s.heap.get? T=some o)
  (q1:SIt s.heap t1 n l1 k) (q2:SIt s.heap t2 (n+1) l2 k) (o1:SOf s.heap t1 l1 xs) (o2:SOf s.heap t2 l2 ys) (hend:xs[k]?=none\/ys[k]?=none)
  (kk:∀h' e,(∀c o,c≠n+4->c≠n->c≠n+1->s.heap.get? c=some o->h'.get? c=some o)->(∃o,h'.get? e=some o/\o.cls=.type "StopIteration")->E (.ref e) { s with heap:=h' }) :
  Ë (model prog w) A (Ĵ.«zip.__next__» ⟨[.ref (n+4)],[]⟩) Q E s:=by
 show Ë _ _ (field (.ref (n+4)) 2 >>= _) _ _ _;refine À (ý gz rfl (x:=.bool false) rfl ?_);show Ë _ _ (field (.ref (n+4)) 3 >>= _) _ _ _;refine À (ý gz rfl (x:=.ref (n+2)) rfl ?_);refine À (ē gi rfl ?_);show Ë _ _ (ÿ (.ref (n+4)) >>= _) _ _ _;refine À (qjf gz gT λm1 gz1 e1=>?_);rw[if_neg ú];simp only[List.forIn_toArray,forIn_cons,forIn_nil];refine À (À (À (î ?_)));show Ë _ _ (nextOf (.ref n) >>= _) _ _ _;have p1:SIt m1 t1 n l1 k:=q1.at λo g=>e1.extBut _ _ (ş (by omega)) g;have p2:SOf m1 t1 l1 xs:=o1.at λo g=>e1.extBut _ _ (ş (by omega)) g;cases hx:xs[k]? with
 |none=>
  refine À (ybh hh p1 p2 hx λm2 e g2 he=>?_);exact kk m2 e (λc o d1 d2 _ g=>g2 _ _ d2 (e1.extBut _ _ d1 g)) he
 |some x=>
  have hy:ys[k]?=none:=by
   rcases hend with z|z
   ·rw[hx]at z;cases z
   ·exact z
  refine À (yau p1 p2 hx λm2 r1 e2=>?_);refine Ã (Ã ?_);refine À (À (î ?_));show Ë _ _ (nextOf (.ref (n+1)) >>= _) _ _ _;refine À (ybh hh (q2.at λo g=>e2.extBut _ _ (ş (by omega)) (e1.extBut _ _ (ş (by omega)) g)) (o2.at λo g=>e2.extBut _ _ (ş (by omega)) (e1.extBut _ _ (ş (by omega)) g)) hy λm4 e g4 he=>?_);exact kk m4 e (λc o d1 d2 d3 g=>g4 _ _ d3 (e2.extBut _ _ d2 (e1.extBut _ _ d1 g))) he
end
section
variable {P:Ü}{w:ï}{A:Ā}{E:Æ->Ç->Prop}{s:Ç}
noncomputable abbrev fpZ(n:Nat):List Nat:=[n,n+1,n+2,n+3,n+4]
noncomputable def ZS2(h:Heap)(n:Nat)(t1 t2:Bool)(l1 l2:Addr)(i:Nat):Prop:=
 ų h (n+2) (.ref n) (.ref (n+1))/\SIt h t1 n l1 i/\SIt h t2 (n+1) l2 i/\
 ((IsZip h (n+4) (n+2) (n+3) .none/\∃a b,ų h (n+3) a b)\/∃(T:Nat) (fl:Bool),qdp h (n+4) (n+2) (n+3) (đ T) fl/\∃o,h.get? T=some o)
theorem ZSt.s2(z:ZSt h n t1 t2 l1 l2 i):ZS2 h n t1 t2 l1 l2 i:=by
 obtain ⟨a,b,gz,gi,go,q1,q2⟩:=z;exact ⟨gi,q1,q2,.inl ⟨gz,a,b,go⟩⟩
theorem ZS2.lt(z:ZS2 h n t1 t2 l1 l2 i):n+4<h.objs.size:=by
 obtain ⟨_,_,_,⟨g,_⟩|⟨_,_,g,_⟩⟩:=z
 ·exact é g
 ·exact é g
theorem ZS2.ty(z:ZS2 s.heap n t1 t2 l1 l2 i):s.TypeIs (.ref (n+4)) "zip":=by
 obtain ⟨_,_,_,⟨g,_⟩|⟨_,_,g,_⟩⟩:=z
 ·exact ⟨_,g,rfl⟩
 ·exact ⟨_,g,rfl⟩
theorem ZS2.at(z:ZS2 h n t1 t2 l1 l2 i)(k:∀b ob,h.get? b=some ob->∃ob',h'.get? b=some ob'/\(b<=n+4->ob'=ob)):ZS2 h' n t1 t2 l1 l2 i:=by
 have k':∀b ob,b<=n+4->h.get? b=some ob->h'.get? b=some ob:=λb ob hb g=>by
  obtain ⟨ob',h1,h2⟩:=k b ob g;rw[h1,h2 hb]
 obtain ⟨gi,q1,q2,r⟩:=z;refine ⟨k' _ _ (by omega) gi,q1.at λo g=>k' _ o (by omega) g,q2.at λo g=>k' _ o (by omega) g,?_⟩;rcases r with ⟨g,a,b,go⟩|⟨T,fl,g,o,gT⟩
 ·exact .inl ⟨k' _ _ (by omega) g,a,b,k' _ _ (by omega) go⟩
 ·obtain ⟨o',h1,_⟩:=k T o gT;exact .inr ⟨T,fl,k' _ _ (by omega) g,o',h1⟩
theorem pyNextZ(b1:l1<n)(b2:l2<n)(st:ZS2 s.heap n t1 t2 l1 l2 i)(o1:SOf s.heap t1 l1 xs)(o2:SOf s.heap t2 l2 ys)(hx:xs[i]?=some x)(hy:ys[i]?=some y)
  (k:∀h',ZS2 h' n t1 t2 l1 l2 (i+1)->h'.get? s.heap.objs.size=some { cls:=.type "tuple",data:=.seq #[x,y] }->(∀b ob,b∉fpZ n->s.heap.get? b=some ob->h'.get? b=some ob)->Q (some (.ref s.heap.objs.size)) { s with heap:=h' }) :
  Ë (model P w) A (Ř (.ref (n+4))) Q E s:=by
 have hT:=st.ty;obtain ⟨gi,q1,q2,r⟩:=st;unfold Ř;refine À (ĩ (è (name:=Ċ "__next__") hT ŗ (å ŗ hT F.entry_zip_next ?_ (F.args_zip_next_1 _))));rcases r with ⟨gz,a,b,go⟩|⟨T,fl,gz,gT⟩
 ·refine yid b1 b2 gz gi go q1 q2 o1 o2 (x:=x) (y:=y) hx hy λh' gz' go' r1 r2 hT' hsz kp=>?_;refine Ã (k h' ⟨kp _ _ (ş (by omega)) (ş (by omega)) (ş (by omega)) (ş (by omega)) gi,r1,r2,.inr ⟨_,_,gz',_,hT'⟩⟩ hT' λb ob hb z=>?_);exact kp b ob (λq=>hb (by simp[q])) (λq=>hb (by simp[q])) (λq=>hb (by simp[q])) (λq=>hb (by simp[q])) z
 ·obtain ⟨oT,gT⟩:=gT;refine zipNext2 b1 b2 gz gi ⟨oT,gT⟩ q1 q2 o1 o2 (x:=x) (y:=y) hx hy λh' gz' r1 r2 hT' kp=>?_;have aT:∃o,h'.get? T=some o:=by
   by_cases h4:T=n+4
   ·exact ⟨_,by rw[h4];exact gz'⟩
   ·by_cases h0:T=n
    ·obtain ⟨o,g,_⟩:=r1.obj;exact ⟨o,by rw[h0];exact g⟩
    ·by_cases h1:T=n+1
     ·obtain ⟨o,g,_⟩:=r2.obj;exact ⟨o,by rw[h1];exact g⟩
     ·exact ⟨_,kp T _ h4 h0 h1 gT⟩
  refine Ã (k h' ⟨kp _ _ (ş (by omega)) (ş (by omega)) (ş (by omega)) gi,r1,r2,.inr ⟨_,_,gz',aT⟩⟩ hT' λb ob hb z=>?_);exact kp b ob (λq=>hb (by simp[q])) (λq=>hb (by simp[q])) (λq=>hb (by simp[q])) z
theorem qh2(hh:A.handled=none)(b1:l1<n)(b2:l2<n)(st:ZS2 s.heap n t1 t2 l1 l2 i)(o1:SOf s.heap t1 l1 xs)(o2:SOf s.heap t2 l2 ys)(hend:xs[i]?=none\/ys[i]?=none)
  (k:∀h',(∀b ob,b∉fpZ n->s.heap.get? b=some ob->h'.get? b=some ob)->Q none { s with heap:=h' }) :
  Ë (model P w) A (Ř (.ref (n+4))) Q E s:=by
 have hT:=st.ty;obtain ⟨gi,q1,q2,r⟩:=st;unfold Ř;refine À (ĩ (è (name:=Ċ "__next__") hT ŗ (å ŗ hT F.entry_zip_next ?_ (F.args_zip_next_1 _))));have fin:∀h' e,(∀b ob,b∉fpZ n->s.heap.get? b=some ob->h'.get? b=some ob)->(∃o,h'.get? e=some o/\o.cls=.type "StopIteration")->Ë (model P w) A (do
   let b <-isInstance (.ref e) (.type "StopIteration")
   if b=true then pure none else throw (.ref e)) Q E { s with heap:=h' }:=λh' e kp he=>by
  obtain ⟨o,ho,hce⟩:=he;exact À (Ĳ (T:="StopIteration") (b:=true) ⟨o,ho,hce⟩ ae (Ã (k h' kp)))
 rcases r with ⟨gz,a,b,go⟩|⟨T,fl,gz,gT⟩
 ·exact qi6 hh b1 b2 gz gi go q1 q2 o1 o2 hend λh' e kp he=>fin h' e (λb ob hb z=>kp b ob (λq=>hb (by simp[q])) (λq=>hb (by simp[q])) (λq=>hb (by simp[q])) (λq=>hb (by simp[q])) z) he
 ·exact zipDone2 hh b1 b2 gz gi gT q1 q2 o1 o2 hend λh' e kp he=>fin h' e (λb ob hb z=>kp b ob (λq=>hb (by simp[q])) (λq=>hb (by simp[q])) (λq=>hb (by simp[q])) z) he
noncomputable def cz(kf:Nat->Key)(ys:Array Æ):Nat->List (Key×Æ)
 |0=>[]
 |i+1=>stored (cz kf ys i) (kf i) (ys[i]?.getD .none)
theorem yg3(kf:Nat->Key)(ys:Array Æ):∀i,(cz kf ys i).length<=i
 |0=>Ò _
 |i+1=>by
  have:=yg3 kf ys i;unfold cz stored;split
  ·rw[Ð];omega
  ·rw[Ó];simp;omega
theorem dictLoop{n l1 l2 d m:Nat}{xs ys:Array Æ}{kf:Nat->Key}{t1 t2:Bool}{R:Result->Ç->Prop}(hh:A.handled=none)(b1:l1<n)(b2:l2<n)(hm:m=min xs.size ys.size)(hz:m<=Õ)(hk:∀i x,xs[i]?=some x->(bR P w).is (kf i) x=true)(hd:n+4<d) :
  ∀r i (s:Ç),i+r=m->ZS2 s.heap n t1 t2 l1 l2 i->SOf s.heap t1 l1 xs->SOf s.heap t2 l2 ys->s.heap.DictOf (bR P w) d (cz kf ys i)->
   (∀h' tk,h'.DictOf (bR P w) d (cz kf ys m)->(∀b ob,b<n->s.heap.get? b=some ob->h'.get? b=some ob)->R (.ok (.ret .none)) { s with heap:=h',toks:=tk })->
   ag (model P w) A (.builtin "dict.update.loop" ⟨[.ref d,.ref (n+4),đ i,.none],[]⟩) R s:=by
 intro r;have nfp:∀b,b<n->b∉fpZ n:=λb hb hm=>by simp at hm;omega
 have nfd:d∉fpZ n:=λhm=>by simp at hm;omega
 induction r with
 |zero=>
  intro i s hi st o1 o2 hD k;refine ĺ qbs ?_;rw[ĥ yay _];show Ë _ A.in1 (Ř (.ref (n+4)) >>= _) _ _ _;refine À (qh2 (A:=A.in1) hh b1 b2 st o1 o2 ?_ λh' kp=>?_)
  ·simp only[Array.getElem?_eq_none_iff];omega
  ·refine À (m:=Builtin.Dict.addKeywords d []) (Ť (a:=()) (by rfl) ?_);have e:i=m:=by omega
   subst e;refine Ã (k h' s.toks (hD.at λo g=>kp d o nfd g) λb ob hb g=>kp b ob (nfp b hb) g)
 |succ r ih=>
  intro i s hi st o1 o2 hD k;refine ĺ qbs ?_;rw[ĥ yay _];show Ë _ A.in1 (Ř (.ref (n+4)) >>= _) _ _ _;obtain ⟨x,hx⟩:∃x,xs[i]?=some x:=⟨_,ç (by omega)⟩;obtain ⟨y,hy⟩:∃y,ys[i]?=some y:=⟨_,ç (by omega)⟩;refine À (pyNextZ (A:=A.in1) b1 b2 st o1 o2 hx hy λh' st' hT kp=>?_);dsimp only;refine À (î (À (wpAny_tryCatch ?_)));have hTT:ź { s with heap:=h' } (.ref s.heap.objs.size) "tuple":=⟨_,hT,rfl⟩;unfold Builtin.Dict.pairItems;refine À (θ hTT ?_);rw[if_pos (by decide)];refine À (ē hT rfl (Ã ?_));show Ë _ A.in1 (holding [x,y] (dictSet d x y)) _ _ _;refine î (wpAny_dictSet_pairs (k:=kf i) (hk i x hx) (hD.at λo g=>kp d o nfd g) (λh2 hD2 sb=>?_) ?_)
  ·refine Ã ⟨Ζ yay _,?_⟩;have hD3:h2.DictOf (bR P w) d (cz kf ys (i+1)):=by
    unfold cz;rw[hy];exact hD2
   have up:∀b ob,b≠d->h'.get? b=some ob->h2.get? b=some ob:=λb ob hb g=>(sb.2 b hb).trans g;have:=ih (i+1) { s with heap:=h2,toks:=s.toks+1 } (by omega) (st'.at λb ob g=>?_) (o1.at λo g=>up _ o (by omega) (kp _ o (nfp _ b1) g)) (o2.at λo g=>up _ o (by omega) (kp _ o (nfp _ b2) g)) hD3 λh3 tk hD4 kp3=>k h3 tk hD4 λb ob hb g=>kp3 b ob hb (up b ob (by omega) (kp b ob (nfp b hb) g))
   ·rw[show ((i+1:Nat):Int)=(i:Int)+1 from rfl]at this;exact this
   ·by_cases hb:b=d
    ·subst hb;obtain ⟨o,_,_,go,_⟩:=hD3;exact ⟨o,go,λz=>absurd z (Nat.not_le.mpr hd)⟩
    ·exact ⟨ob,up b ob hb g,λ_=>rfl⟩
  ·have:=yg3 kf ys i;omega
theorem yhl:Ī "dict"=some (.type "dict"):=by decide +kernel
theorem qhp(hh:A.handled=none)(b1:l1<n)(b2:l2<n)(hm:m=min xs.size ys.size)(hz:m<=Õ)(hk:∀i x,xs[i]?=some x->(bR P w).is (kf i) x=true)
  (st:ZSt s.heap n t1 t2 l1 l2 0) (o1:SOf s.heap t1 l1 xs) (o2:SOf s.heap t2 l2 ys)
  (k:∀h' tk,h'.DictOf (bR P w) s.heap.objs.size (cz kf ys m)->(∀b ob,b<n->s.heap.get? b=some ob->h'.get? b=some ob)->Q (.ref s.heap.objs.size) { s with heap:=h',toks:=tk }) :
  Ë (model P w) A (call (.type "dict") [.ref (n+4)]) Q E s:=by
 refine callType_codes F.kt_called_dict (F.kt_typeCall_dict_1 _) F.entry_dict_init (kt_code_dict_new (.ref (n+4)) (Q₁:=λobj s1=>obj=.ref s.heap.objs.size/\s1={ s with heap:=s.heap.push { cls:=.type "dict",data:=.dict #[] } }) ⟨rfl,rfl⟩) ?_;rintro obj s1 ⟨rfl,rfl⟩;have lt:n+4<s.heap.objs.size:=st.s2.lt;have g0:(s.heap.push { cls:=.type "dict",data:=.dict #[] }).get? s.heap.objs.size=some { cls:=.type "dict",data:=.dict #[] }:=Ô _ rfl;have up:∀b ob,s.heap.get? b=some ob->(s.heap.push { cls:=.type "dict",data:=.dict #[] }).get? b=some ob:=λb ob g=>È _ g;have hD0:(s.heap.push { cls:=.type "dict",data:=.dict #[] }).DictOf (bR P w) s.heap.objs.size []:=Heap.DictOf.new _;revert g0 up hD0;generalize s.heap.push { cls:=.type "dict",data:=.dict #[] }=h1;intro g0 up hD0;have hTd:ź { s with heap:=h1 } (.ref s.heap.objs.size) "dict":=⟨_,g0,rfl⟩;refine ⟨hTd,F.args_dict_init_2 _ _,?_⟩;have st1:ZSt h1 n t1 t2 l1 l2 0:=by
  obtain ⟨a,b,gz,gi,go,q1,q2⟩:=st;exact ⟨a,b,up _ _ gz,up _ _ gi,up _ _ go,q1.at λo g=>up _ o g,q2.at λo g=>up _ o g⟩
 obtain ⟨a0,b0,gz,_⟩:=id st1;have hTz:ź { s with heap:=h1 } (.ref (n+4)) "zip":=⟨_,gz,rfl⟩;unfold Ĵ.«dict.__init__» Builtin.Dict.selfAndRest;refine À (À ?_);unfold Builtin.Dict.notOrdered;rw[if_pos (by decide +kernel)];refine À (θ hTd ?_);rw[if_neg (by decide)];refine Ã ?_;refine À (m:=Builtin.Dict.addrOf _) (Ť (a:=s.heap.objs.size) (by rfl) (Ã ?_));show Ë _ _ (Builtin.Dict.updateFrom _ _ _ _ _) _ _ _;unfold Builtin.Dict.updateFrom;refine À (θ hTz ?_);rw[if_pos (by decide)];refine À (zipKeys (A:=A.in1.in1) gz hh λh2 tk2 kp2=>?_);rw[if_pos (show (none:Option Æ).isNone=true from rfl)];refine À (Ũ ?_);have st2:ZSt h2 n t1 t2 l1 l2 0:=by
  obtain ⟨a,b,gz,gi,go,q1,q2⟩:=st1;exact ⟨a,b,kp2 _ _ gz,kp2 _ _ gi,kp2 _ _ go,q1.at λo g=>kp2 _ o g,q2.at λo g=>kp2 _ o g⟩
 refine À (wpAny_pyIter_zip (kp2 _ _ gz) ?_);refine Ã ⟨Ζ yay _,?_⟩;refine dictLoop (A:=A.in1) hh b1 b2 hm hz hk lt m 0 _ (by omega) st2.s2 (o1.at λo g=>kp2 _ o (up _ o g)) (o2.at λo g=>kp2 _ o (up _ o g)) (hD0.at λo g=>kp2 _ o g) λh3 tk3 hD3 kp3=>?_;exact ⟨rfl,k h3 tk3 hD3 λb ob hb g=>kp3 b ob hb (kp2 b ob (up b ob g))⟩
end
noncomputable def dzip(ks:List Key)(ys:List V):Nat->List (Key×V)
 |0=>[]
 |i+1=>aL (dzip ks ys i) (ks[i]?.getD (.inl 0)) (ys[i]?.getD .non)
theorem ygx(ks:List Key)(ys:List V):∀i,(dzip ks ys i).length<=i
 |0=>Ò _
 |i+1=>by
  have:=ygx ks ys i;have h2:=yba (dzip ks ys i) (ks[i]?.getD (.inl 0)) (ys[i]?.getD .non);unfold dzip;omega
theorem yjz(r:Vals ys us):∀i,i<=ys.length->KV (dzip ks ys i) (cz (λj=>ks[j]?.getD (.inl 0)) us.toArray i)
 |0,_=>.nil
 |i+1,h=>by
  unfold dzip cz;obtain ⟨u,hu,ru⟩:=r.get (Í (l:=ys) (i:=i) (by omega));refine KV.put (yjz r i (by omega)) _ ?_;rw[Í (l:=ys) (i:=i) (by omega),Υ,hu];exact ru
noncomputable def rDZ(K:Þ):List V->Hp->VK->Prop:=λvs H Q=>∃t1 t2 l1 l2 ks ys,vs=[.ref l1,.ref l2]/\Sq K t1 H l1 (ks.map kV)/\Sq K t2 H l2 ys/\ys.length<=Õ/\∀p,H p=none->Q (.ref p) (upd H p (.dK (dzip ks ys (min ks.length ys.length))))
noncomputable def tDZ(K:Þ)(ta:TA):TE:=λσ H Q=>ta σ H λvs H1=>rDZ K vs H1 Q
section
variable {X:Cx}
theorem yhk(hc:X.calm=true)(hd:Gl X "dict")(hdm:X.mg "dict"=none)(hg:Gl X "zip")(hm:X.mg "zip"=none)(ha:PA X [a,b] ta)(hs:â [a,b] X.env=(false,eval a X.env)::â [b] X.env:=by rfl)(hp:(ľ pos2 (â [b] X.env)).any (·.1)=false:=by rfl)
  (hs2:â [Expr.Call (.Name "zip" p2) [a,b] [] pos2] X.env=(false,eval (.Call (.Name "zip" p2) [a,b] [] pos2) X.env)::â [] X.env:=by rfl) (hp2:(ľ pos (â [] X.env)).any (·.1)=false:=by rfl) :
  PE X (.Call (.Name "dict" p) [.Call (.Name "zip" p2) [a,b] [] pos2] [] pos) (tDZ X.K ta):=by
 intro pins s σ H Q I h;refine Œ (fq I hd hdm yhl ?_);refine ċ ?_ hs2 hp2;rw[hs2];show Ë _ _ (spliced ((false,eval _ X.env)::ľ pos (â [] X.env))) _ _ s;refine Calls.spliced_cons ?_;refine Œ (fq I hg hm yfj (ċ (thn (ha pos2 pins s σ H _ I h) λus s1 ⟨vs,H1,I1,r1,q1⟩=>?_) hs hp));obtain ⟨t1,t2,l1,l2,ks,ys,e,hq1,hq2,hz,q⟩:=q1;subst e;cases r1 with
 |cons r rr=>
  cases rr with
  |cons r2 rr=>
   cases rr;cases r;cases r2;obtain ⟨its1,rv1,so1,b1⟩:=I1.sq hq1;obtain ⟨its2,rv2,so2,b2⟩:=I1.sq hq2;refine yfn so1 so2 λh' st kp=>?_;refine Calls.spliced_nil ?_;have l1':=rv1.length;have l2':=rv2.length;rw[Ð]at l1';refine qhp (s:={ s1 with heap:=h' }) (m:=min ks.length ys.length) (kf:=λj=>ks[j]?.getD (.inl 0)) (I.ok.hd hc) b1 b2 (by simp[l1',l2']) (by omega) (λi x hx=>?_) st (so1.at λo g=>kp _ o g) (so2.at λo g=>kp _ o g) λh3 tk3 hD3 kp3=>?_
   ·have hx':its1[i]?=some x:=by simpa using hx
    have hi:i<ks.length:=by
     have:=(É.mp hx').1;omega
    obtain ⟨u,hu,ru⟩:=rv1.get (x:=kV ks[i]) (by rw[Ĉ,Í hi];rfl);rw[hx']at hu;cases hu;show (bR X.prog X.w).is (ks[i]?.getD (.inl 0)) x=true;rw[Í hi];exact yee ru
   ·have up:∀b ob,s1.heap.get? b=some ob->h3.get? b=some ob:=λb ob g=>kp3 b ob (é g) (kp b ob g);have lt:s1.heap.objs.size<=h'.objs.size:=by
     have:=st.s2.lt;omega
    have fr:H1 h'.objs.size=none:=I1.hok.fresh lt;have big:=I1.big;refine ⟨.ref h'.objs.size,upd H1 h'.objs.size (.dK (dzip ks ys (min ks.length ys.length))),I1.laid (a:=h'.objs.size) (o:=.dK _) (t':=tk3) up lt ⟨?_,?_,_,yjz rv2 _ (by omega),hD3⟩,rfl,q _ fr⟩
    ·have:=ygx ks ys (min ks.length ys.length);omega
    ·exact beq_eq_false_iff_ne.mpr (ai (ā big lt))
theorem yh1(h0:0<y)(h1:y<=18446744073709551616):Builtin.divisionGoesByPylong x y=false:=by
 have hl:y.natAbs.log2<65:=(Nat.log2_lt (by omega)).mpr (by omega);unfold Builtin.divisionGoesByPylong;have e:decide ((if (y == 0)=true then 0 else y.natAbs.log2 / 30+1)>300)=false:=by
  refine decide_eq_false ?_;rw[if_neg (by simp;omega)];omega
 show (decide ((if (y == 0)=true then 0 else y.natAbs.log2 / 30+1)>300)&&_)=false;rw[e];rfl
noncomputable def CDivB(_ j:Int):Prop:=0<j/\j<=18446744073709551616
theorem op_fdivB:OpR X (Ń .FloorDiv) (rI CDivB λi j=>.int (i / j)):=opI λi j _ _ _ _ _ hc q=>by
 have h1:(0:Int)<j:=hc.1;exact floordiv_int (by omega) (by rw[Int.fdiv_eq_ediv_of_nonneg i (by omega)];exact q) (.inl (yh1 hc.1 hc.2))
noncomputable def rSetdef:V->List V->Hp->VK->Prop:=λx vs H Q=>∃(a:Addr) (kvs:List (Key×V)) (k:Key) (v:V),x=.ref a/\vs=[kV k,v]/\H a=some (.dK kvs)/\kvs.length<Õ/\
 (∀y,bi kvs k=some y->Q y H)/\(bi kvs k=none->Q v (upd H a (.dK (aL kvs k v))))
theorem qkh:MtM X "dict.setdefault" rSetdef:=by
 intro pins s σ H x vs v us Q I rx rv h;obtain ⟨a,kvs,k,d,rfl,rfl,ha,hl,q1,q2⟩:=h;cases rx;cases rv
 rename_i u us' ru rv'
 obtain ⟨r,rfl,rr⟩:=Vals.one rv';obtain ⟨z1,m1,vs1,r1,dd1⟩:=dk_of I.hok ha;have l1:=r1.length;have rk:=r1.val k;refine call_meetsIn F.slot_dict_setdefault dd1.typeIs F.entry_dict_setdefault (F.args_dict_setdefault_3 _ _ _) (kt_meets_setdefault (bR X.prog X.w) a (yee ru) m1 r) ⟨vs1,dd1,by omega,λw' hw=>?_,λhn h' dd' sb=>?_⟩
 ·rw[hw]at rk;cases hv:bi kvs k with
  |none=>rw[hv]at rk;exact absurd rk (by intro z;cases z)
  |some y=>
   rw[hv]at rk;exact ⟨y,_,I.tok _,rk,q1 y hv⟩
 ·rw[hn]at rk;cases hv:bi kvs k with
  |some y=>rw[hv]at rk;exact absurd rk (by intro z;cases z)
  |none=>
   have he:∃q,h'.get? a=some q:=let ⟨q,_,_,hq,_⟩:=dd';⟨q,hq⟩;have hl':(aL kvs k d).length<=Õ:=by have:=yba kvs k d;omega
   exact ⟨d,_,qcq I (by rw[ha];exact į) sb he (qjv hl' m1 (r1.put k rr) dd'),rr,q2 hv⟩
end
end L2
namespace L2
open PySem PySem.Spec PyProof.Rows PySem.W
section
variable {cmp:Nat->Nat->(Bool->Ç->Prop)->Ç->Prop}{Ok:Ç->Prop}{g:Nat->Int}{n:Nat}
noncomputable def Ans(cmp:Nat->Nat->(Bool->Ç->Prop)->Ç->Prop)(Ok:Ç->Prop)(g:Nat->Int)(n:Nat):Prop:=
 ∀i j C s,i<n->j<n->Ok s->(∀s',Ok s'->C (decide (g i<g j)) s')->cmp i j C s
noncomputable def Gk(g:Nat->Int)(p:Array Nat)(k:Nat):Int:=g (p.getD k 0)
noncomputable def UpTo(g:Nat->Int)(p:Array Nat)(k:Nat):Prop:=∀i j,i<=j->j<k->Gk g p i<=Gk g p j
noncomputable def DnTo(g:Nat->Int)(p:Array Nat)(k:Nat):Prop:=∀i j,i<=j->j<k->Gk g p j<=Gk g p i
noncomputable def PmN(p:Array Nat)(n:Nat):Prop:=p.Perm (Ġ (õ n))
theorem PmN.size(h:PmN p n):p.size=n:=by rw[h.size_eq];simp
theorem PmN.lt(h:PmN p n){k:Nat}(hk:k<n):p.getD k 0<n:=by
 have hs:k<p.size:=by rw[h.size];exact hk
 have e:p.getD k 0=p[k]:=by simp[Array.getD,hs]
 rw[e];have:p[k]∈Ġ (õ n):=h.mem_iff.mp (Array.getElem_mem hs)
 simpa using this
theorem qcd(h:p[i]?=q[j]?):Gk g p i=Gk g q j:=by
 unfold Gk;rw[<-getD_eq_getD_getElem?.symm,<-getD_eq_getD_getElem?.symm];simp[ŕ,h]
theorem qfn(hs:src<p.size)(hd:d<=src)(k:Nat):Gk g (bubble p src d) k=if k=src-d then Gk g p src else if src-d<k/\k<=src then Gk g p (k-1) else Gk g p k:=by
 have e:=getElem?_bubble hs d hd k;by_cases h1:k=src-d
 ·rw[if_pos h1]at e ⊢;exact qcd e
 ·rw[if_neg h1]at e ⊢;by_cases h2:src-d<k/\k<=src
  ·rw[if_pos h2]at e ⊢;exact qcd e
  ·rw[if_neg h2]at e ⊢;exact qcd e
theorem yil(hj:j<=p.size)(k:Nat):Gk g (kas_rev p i j) k=if i<=k/\k<j then Gk g p (i+j-1-k) else Gk g p k:=by
 have e:=getElem?_mirror_all (xs:=p) (i:=i) hj k;unfold kas_rev;by_cases h1:i<=k/\k<j
 ·rw[if_pos h1]at e ⊢;exact qcd e
 ·rw[if_neg h1]at e ⊢;exact qcd e
theorem qcc(hj:j<=p.size)(heq:∀k,i<=k->k<j->Gk g p k=Gk g p (j-1))(k:Nat):Gk g (kas_rev p i j) k=Gk g p k:=by
 rw[yil hj];split
 ·rw[heq _ (by omega) (by omega),heq k (by omega) (by omega)]
 ·rfl
theorem PmN.rev(h:PmN p n)(i j:Nat):PmN (kas_rev p i j) n:=(mirror_perm p i j _).trans h
theorem PmN.bub(h:PmN p n)(i j:Nat):PmN (bubble p i j) n:=(bubble_perm p i j).trans h
theorem t_asc(hc:Ans cmp Ok g n){p:Array Nat}(hp:PmN p n){Q:Nat->Ç->Prop}:∀(f m:Nat) (s:Ç),1<=m->m+f=n->UpTo g p m->Ok s->
  (∀m' s',Ok s'->m<=m'->m'<=n->UpTo g p m'->(m' < n->Gk g p m' < Gk g p (m' - 1))->Q m' s')->(kas_asc p f m).kasWp cmp Q s
 |0,m,s,h1,hf,hu,ok,q=>q m s ok (Ò _) (by omega) hu (by omega)
 |f+1,m,s,h1,hf,hu,ok,q=>by
  refine hc _ _ _ s (hp.lt (by omega)) (hp.lt (by omega)) ok λs' ok'=>?_;by_cases hl:Gk g p m<Gk g p (m-1)
  ·rw[show decide (g (p.getD m 0)<g (p.getD (m-1) 0))=true from decide_eq_true hl];exact q m s' ok' (Ò _) (by omega) hu λ_=>hl
  ·rw[show decide (g (p.getD m 0)<g (p.getD (m-1) 0))=false from decide_eq_false hl];refine t_asc hc hp f (m+1) s' (by omega) (by omega) (λi j hij hj=>?_) ok' λm' s'' o1 o2 o3 o4 o5=>q m' s'' o1 (by omega) o3 o4 o5;by_cases hjm:j<m
   ·exact hu i j hij hjm
   ·have e:j=m:=by omega
    subst e;by_cases hi:i=j
    ·subst hi;exact Ŵ _
    ·exact Int.le_trans (hu i (j-1) (by omega) (by omega)) (Int.not_lt.mp hl)
theorem qjz(hc:Ans cmp Ok g n){Q:Array Nat×Nat×Nat->Ç->Prop}:∀(f:Nat) (p:Array Nat) (m q:Nat) (s:Ç),PmN p n->1<=m->m+f=n->DnTo g p m->q+1<=m->(∀i,m-(q+1)<=i->i<m->Gk g p i=Gk g p (m-1))->Ok s->
  (∀p' m' q' s',Ok s'->PmN p' n->m<=m'->m'<=n->DnTo g p' m'->q' + 1<=m'->(∀i,m' - (q' + 1)<=i->i<m'->Gk g p' i=Gk g p' (m' - 1))->Q (p',m',q') s')->(kas_desc f p m q).kasWp cmp Q s
 |0,p,m,q,s,hp,h1,hf,hd,hq,he,ok,k=>k p m q s ok hp (Ò _) (by omega) hd hq he
 |f+1,p,m,q,s,hp,h1,hf,hd,hq,he,ok,k=>by
  refine hc _ _ _ s (hp.lt (by omega)) (hp.lt (by omega)) ok λs' ok'=>?_;have hsz:m<=p.size:=by rw[hp.size];omega
  by_cases hl:Gk g p m<Gk g p (m-1)
  ·rw[show decide (g (p.getD m 0)<g (p.getD (m-1) 0))=true from decide_eq_true hl];have step1:∀xs:Array Nat,(∀k,Gk g xs k=Gk g p k)->DnTo g xs (m+1):=by
    intro xs hk i j hij hj;rw[hk,hk];by_cases hjx:j<m
    ·exact hd i j hij hjx
    ·have hj':j=m:=by omega
     subst hj';by_cases hi':i=j
     ·subst hi';exact Ŵ _
     ·exact Int.le_trans (Int.le_of_lt hl) (hd i (j-1) (by omega) (by omega))
   have fin:∀xs:Array Nat,PmN xs n->(∀k,Gk g xs k=Gk g p k)->(kas_desc f xs (m+1) 0).kasWp cmp Q s':=λxs hx hk=>
    qjz hc f xs (m+1) 0 s' hx (by omega) (by omega) (step1 xs hk) (by omega) (λi h1 h2=>by congr 1;omega) ok' λp' m' q' s'' o1 o2 o3=>k p' m' q' s'' o1 o2 (by omega)
   show (if q>0 then _ else _:KasT _).kasWp cmp Q s';by_cases hneq:q>0
   ·rw[if_pos hneq];exact fin _ (hp.rev _ _) (qcc hsz he)
   ·rw[if_neg hneq];exact fin _ hp λ_=>rfl
  ·rw[show decide (g (p.getD m 0)<g (p.getD (m-1) 0))=false from decide_eq_false hl];refine hc _ _ _ s' (hp.lt (by omega)) (hp.lt (by omega)) ok' λs2 ok2=>?_;by_cases hl2:Gk g p (m-1)<Gk g p m
   ·rw[show decide (g (p.getD (m-1) 0)<g (p.getD m 0))=true from decide_eq_true hl2];exact k p m q s2 ok2 hp (Ò _) (by omega) hd hq he
   ·rw[show decide (g (p.getD (m-1) 0)<g (p.getD m 0))=false from decide_eq_false hl2];have heqx:Gk g p m=Gk g p (m-1):=by omega
    refine qjz hc f p (m+1) (q+1) s2 hp (by omega) (by omega) (λi j hij hj=>?_) (by omega) (λi h1 h2=>?_) ok2 λp' m' q' s'' o1 o2 o3=>k p' m' q' s'' o1 o2 (by omega)
    ·by_cases hjx:j<m
     ·exact hd i j hij hjx
     ·have hj':j=m:=by omega
      subst hj';by_cases hi':i=j
      ·subst hi';exact Ŵ _
      ·rw[heqx];exact hd i (j-1) (by omega) (by omega)
    ·rw[show m+1-1=m by omega];by_cases hix:i=m
     ·subst hix;rfl
     ·rw[heqx];exact he i (by omega) (by omega)
theorem qjd(hc:Ans cmp Ok g n){p:Array Nat}(hp:PmN p n){Q:Nat×Array Nat->Ç->Prop}{m:Nat}{s:Ç}(h1:1<=m)(hm:m<=n)(hd:DnTo g p m)(ok:Ok s)
  (q:∀m' p' s',Ok s'->PmN p' n->1<=m'->m'<=n->UpTo g p' m'->Q (m',p') s'):(kas_tail3 m n p).kasWp cmp Q s:=by
 unfold kas_tail3;rw[av];have hsz:m<=p.size:=by rw[hp.size];exact hm
 refine t_asc hc (hp.rev 0 m) (n-m) m s h1 (by omega) (λi j hij hj=>?_) ok λm' s' o1 o2 o3 o4 _=>q m' _ s' o1 (hp.rev 0 m) (by omega) o3 o4;rw[yil hsz,yil hsz,if_pos ⟨ķ _,by omega⟩,if_pos ⟨ķ _,hj⟩];exact hd _ _ (by omega) (by omega)
theorem ydz(hc:Ans cmp Ok g n){p:Array Nat}(hp:PmN p n){Q:Nat×Array Nat->Ç->Prop}{m:Nat}{s:Ç}(hm:m+1<=n)(hd:DnTo g p (m+1))(ok:Ok s)
  (q:∀m' p' s',Ok s'->PmN p' n->1<=m'->m'<=n->UpTo g p' m'->Q (m',p') s'):(kas_descPart m n p).kasWp cmp Q s:=by
 unfold kas_descPart;rw[av];refine qjz hc (n-(m+1)) p (m+1) 0 s hp (by omega) (by omega) hd (by omega) (λi h1 h2=>by congr 1;omega) ok λp' m' q' s' o1 o2 o3 o4 o5 o6 o7=>?_;have hsz:m'<=p'.size:=by rw[o2.size];exact o4
 show (if q' > 0 then _ else _:KasT _).kasWp cmp Q s';by_cases hq:q' > 0
 ·rw[if_pos hq];refine qjd (m:=m') hc (o2.rev _ _) (by omega) o4 (λi j hij hj=>?_) o1 q;show Gk g (kas_rev p' (m' - (q' + 1)) m') j<=Gk g (kas_rev p' (m' - (q' + 1)) m') i;rw[qcc hsz o7,qcc hsz o7];exact o5 i j hij hj
 ·rw[if_neg hq];exact qjd (m:=m') hc o2 (by omega) o4 o5 o1 q
theorem t_count(hc:Ans cmp Ok g n){p:Array Nat}(hp:PmN p n){Q:Nat×Array Nat->Ç->Prop}{s:Ç}(h1:1<=n)(ok:Ok s)
  (q:∀m' p' s',Ok s'->PmN p' n->1<=m'->m'<=n->UpTo g p' m'->Q (m',p') s'):(kas_count n p).kasWp cmp Q s:=by
 unfold kas_count;rw[av];refine t_asc hc hp (n-1) 1 s (Ò _) (by omega) (λi j hij hj=>by rw[show i=j by omega];exact Ŵ _) ok λm s' o1 o2 o3 o4 o5=>?_;by_cases hm:m=n
 ·rw[if_pos (by simp[hm])];exact q m p s' o1 hp o2 o3 o4
 ·rw[if_neg (by simp[hm])];have hlt:=o5 (by omega);by_cases h2:m>1
  ·rw[if_pos h2];refine hc _ _ _ s' (hp.lt (by omega)) (hp.lt (by omega)) o1 λs2 ok2=>?_;by_cases hl:Gk g p 0<Gk g p (m-1)
   ·rw[show decide (g (p.getD 0 0)<g (p.getD (m-1) 0))=true from decide_eq_true hl];exact q m p s2 ok2 hp o2 o3 o4
   ·rw[show decide (g (p.getD 0 0)<g (p.getD (m-1) 0))=false from decide_eq_false hl];have hsz:m<=p.size:=by rw[hp.size];exact o3
    have all:∀k,0<=k->k<m->Gk g p k=Gk g p (m-1):=λk _ hk=>by
     have a:=o4 0 k (ķ _) hk;have b:=o4 k (m-1) (by omega) (by omega);omega
    refine ydz hc (hp.rev 0 m) (by omega) (λi j hij hj=>?_) ok2 q;rw[qcc hsz all,qcc hsz all];by_cases hj':j<m
    ·rw[all i (ķ _) (by omega),all j (ķ _) hj'];exact Ŵ _
    ·have e:j=m:=by omega
     subst e;by_cases hi:i=j
     ·subst hi;exact Ŵ _
     ·rw[all i (ķ _) (by omega)];omega
  ·rw[if_neg h2];have e:m=1:=by omega
   subst e;refine ydz hc hp (by omega) (λi j hij hj=>?_) o1 q;by_cases hi:i=j
   ·subst hi;exact Ŵ _
   ·rw[show i=0 by omega,show j=1 by omega];exact Int.le_of_lt hlt
theorem qgi(hc:Ans cmp Ok g n){p:Array Nat}(hp:PmN p n){k:Nat}(hk:k<n)(hu:UpTo g p k){Q:Nat->Ç->Prop}:∀(f l r:Nat) (s:Ç),l<=r->r<=k->r-l<=f->(∀i,i<l->Gk g p i<=Gk g p k)->(∀i,r<=i->i<k->Gk g p k<Gk g p i)->Ok s->
  (∀l s',Ok s'->l<=k->(∀i,i<l->Gk g p i<=Gk g p k)->(∀i,l<=i->i<k->Gk g p k<Gk g p i)->Q l s')->(kas_place p k f l r).kasWp cmp Q s
 |0,l,r,s,h1,h2,h3,hlo,hhi,ok,q=>q l s ok (by omega) hlo λi a b=>hhi i (by omega) b
 |f+1,l,r,s,h1,h2,h3,hlo,hhi,ok,q=>by
  show (if l≥r then _ else _:KasT _).kasWp cmp Q s;by_cases hge:l≥r
  ·rw[if_pos hge];exact q l s ok (by omega) hlo λi a b=>hhi i (by omega) b
  ·rw[if_neg hge];refine hc _ _ _ s (hp.lt hk) (hp.lt (by omega)) ok λs' ok'=>?_;by_cases hl:Gk g p k<Gk g p ((l+r) / 2)
   ·rw[show decide (g (p.getD k 0)<g (p.getD ((l+r) / 2) 0))=true from decide_eq_true hl];exact qgi hc hp hk hu f l ((l+r) / 2) s' (by omega) (by omega) (by omega) hlo (λi a b=>Int.lt_of_lt_of_le hl (hu _ _ a b)) ok' q
   ·rw[show decide (g (p.getD k 0)<g (p.getD ((l+r) / 2) 0))=false from decide_eq_false hl];exact qgi hc hp hk hu f ((l+r) / 2+1) r s' (by omega) (by omega) (by omega) (λi a=>Int.le_trans (hu i ((l+r) / 2) (by omega) (by omega)) (Int.not_lt.mp hl)) hhi ok' q
theorem t_bin(hc:Ans cmp Ok g n){Q:Array Nat->Ç->Prop}:∀(f:Nat) (p:Array Nat) (k:Nat) (s:Ç),PmN p n->k+f=n->UpTo g p k->Ok s->(∀p' s',Ok s'->PmN p' n->UpTo g p' n->Q p' s')->(kas_bin f p k).kasWp cmp Q s
 |0,p,k,s,hp,hf,hu,ok,q=>q p s ok hp (by rw[<-hf];exact hu)
 |f+1,p,k,s,hp,hf,hu,ok,q=>by
  unfold kas_bin;rw[av];refine qgi hc hp (by omega) hu k 0 k s (ķ _) (Ò _) (by omega) (λi h=>by omega) (λi a b=>by omega) ok λl s' ok' hl hlo hhi=>?_;have hs:k<p.size:=by rw[hp.size];omega
  refine t_bin hc f _ (k+1) s' (hp.bub k (k-l)) (by omega) (λi j hij hj=>?_) ok' q;rw[qfn hs (by omega),qfn hs (by omega),show k-(k-l)=l by omega];by_cases ei:i=l
  ·rw[if_pos ei];by_cases ej:j=l
   ·rw[if_pos ej];exact Ŵ _
   ·rw[if_neg ej,if_pos (by omega)];exact Int.le_of_lt (hhi _ (by omega) (by omega))
  ·rw[if_neg ei];by_cases i2:l<i/\i<=k
   ·rw[if_pos i2,if_neg (by omega),if_pos (by omega)];exact hu _ _ (by omega) (by omega)
   ·rw[if_neg i2];by_cases ej:j=l
    ·rw[if_pos ej];exact hlo i (by omega)
    ·rw[if_neg ej];by_cases j2:l<j/\j<=k
     ·rw[if_pos j2];exact hu _ _ (by omega) (by omega)
     ·rw[if_neg j2];exact hu _ _ hij (by omega)
theorem t_sort(hc:Ans cmp Ok g n)(h1:1<=n){Q:Array Nat->Ç->Prop}{s:Ç}(ok:Ok s)(q:∀p s',Ok s'->PmN p n->UpTo g p n->Q p s'):(kas_sort n).kasWp cmp Q s:=by
 unfold kas_sort;rw[av];refine t_count hc (p:=Ġ (õ n)) (Array.Perm.refl _) h1 ok λm p s' o1 o2 o3 o4 o5=>?_;show (if m<n then _ else _:KasT _).kasWp cmp Q s';by_cases hm:m<n
 ·rw[if_pos hm];exact t_bin hc _ p (max m 1) s' o2 (by omega) (by rw[show max m 1=m by omega];exact o5) o1 q
 ·rw[if_neg hm];exact q p s' o1 o2 (by rw[show n=m by omega];exact o5)
end
section
variable {prog:Ü}{w:ï}{A:Ā}{E:Æ->Ç->Prop}{s:Ç}
theorem sort_by(ho:s.heap.get? a=some (ī "list" vs.toArray n))(h64:vs.length<64)
  (hk:2<=vs.length->∀s1:Ç,(∀b o,b≠a->s.heap.get? b=some o->s1.heap.get? b=some o)->∀(Q:SortKind->Ç->Prop),Q κ s1->Ë (model prog w) A (keyKind' vs.toArray) Q (λ_ _=>False) s1)
  (hq:∀s1:Ç,(∀b o,b≠a->s.heap.get? b=some o->s1.heap.get? b=some o)->∀i j,i<vs.length->j<vs.length->∀(C:Bool->Ç->Prop),C (decide (g i<g j)) s1->Ë (model prog w) A (keyLt' κ (vs.getD i ó) (vs.getD j ó)) C (λ_ _=>False) s1)
  (h:∀p:Array Nat,PmN p vs.length->UpTo g p vs.length->P (.done (.ret .none)) { s with heap:=sortedHeap s.heap a vs (Ġ (p.toList.map λi=>vs.getD i ó)) }) :
  Ë (model prog w) A (Ĵ.«list.sort» ⟨[.ref a],[]⟩) P E s:=by
 rw[list_sort_plain];have ha:a<s.heap.objs.size:=é ho;refine À (listItems_at ho rfl ?_);refine À (listUpdate_at ho rfl ?_);obtain ⟨e1,ho1⟩:∃e1,(s.heap.update a (Ĝ λ_=>#[])).get? a=some (ī "list" #[] e1):=⟨_,get?_update_seq ho (λ_=>#[])⟩;refine À (seqEpoch_at ho1 rfl ?_);refine À (Ψ ?_);refine À (wpAny_newList ?_);refine î ?_;have ho6:(((s.heap.update a (Ĝ λ_=>#[])).push (ī "tuple" vs.toArray 0)).push (ī "list" #[] 0)).get? a=some (ī "list" #[] e1):=by
  rw[Heap.get?_push_ne _ _ _ (by rw[size_push',size_update];exact ĉ (ű ha)),Heap.get?_push_ne _ _ _ (by rw[size_update];exact ĉ ha)];exact ho1
 have kp:∀b o,b≠a->s.heap.get? b=some o->(((s.heap.update a (Ĝ λ_=>#[])).push (ī "tuple" vs.toArray 0)).push (ī "list" #[] 0)).get? b=some o:=λb o hb e=>
  È _ (È _ ((Ŷ _ _ (ń hb)).trans e))
 show Ë (model prog w) A _ P E { s with heap:=((s.heap.update a (Ĝ λ_=>#[])).push (ī "tuple" vs.toArray 0)).push (ī "list" #[] 0) };dsimp only;have hsz:vs.toArray.size=vs.length:=by simp
 by_cases h2:vs.toArray.size<2
 ·rw[if_pos h2,if_pos h2];refine À (Ã ?_);rw[StateT.run_pure];refine À (Ã ?_);dsimp only;refine À (seqEpoch_at ho6 rfl ?_);have eo:(arrOf (SortSt.mk' general' (vs.toArray.zip vs.toArray) #[] 7 none)).map (·.2)=Ġ ((Ġ (õ vs.length)).toList.map λi=>vs.getD i ó):=by
   refine kat_snds (ks:=vs) (vs:=vs) rfl (p:=Ġ (õ vs.length)) ?_;have e:=kas_range (vs.toArray.zip vs.toArray);rw[show (vs.toArray.zip vs.toArray).size=vs.length by simp]at e;exact e.symm
  rw[eo];refine À (listUpdate_at ho6 rfl ?_ (hsz2:=by rw[Ú,Ð,ä,Ú,π,sizeLine_eq];omega));simp only[bne_self_eq_false,Ý,if_false];refine Ã (h _ (Array.Perm.refl _) λi j hij hj=>?_);have:i=j:=by omega
  subst this;exact Ŵ _
 ·rw[if_neg h2,if_neg h2];have h2':2<=vs.length:=by omega
  generalize hs1:({ s with heap:=((s.heap.update a (Ĝ λ_=>#[])).push (ī "tuple" vs.toArray 0)).push (ī "list" #[] 0) }:Ç)=s1;have kp1:∀b o,b≠a->s.heap.get? b=some o->s1.heap.get? b=some o:=by rw[<-hs1];exact kp
  have ho7:s1.heap.get? a=some (ī "list" #[] e1):=by rw[<-hs1];exact ho6
  refine À (Ň (hk h2' s1 kp1 (λκ' s'=>κ'=κ/\s'=s1) ⟨rfl,rfl⟩) ?_ λ_ _ x=>x.elim);rintro _ _ ⟨rfl,rfl⟩
  rename_i κ s1
  have ans:Ans (kas_ask prog w A κ vs) (λs'=>s'=s1) g vs.length:=λi j C s2 hi hj e k=>by
   have e':s2=s1:=e;subst e';exact hq s2 kp1 i j hi hj C (k s2 rfl)
  refine À (Ň (kat_run (Q:=λst' s'=>∃p:Array Nat,p.size=vs.length/\arrOf st'=p.map (kas_item (vs.toArray.zip vs.toArray))/\failedOf st'=none/\PmN p vs.length/\UpTo g p vs.length/\s'=s1)
   rfl h2' h64 (λp' st' s' a1 a2 a3 a4=>⟨p',a1,a2,a3,a4⟩) (t_sort ans (by omega) rfl λp s' ok pm up=>⟨pm,up,ok⟩)) ?_ λ_ _ e=>e)
  rintro ⟨⟨⟩,st'⟩ s' ⟨p,hp,har,hf,pm,up,rfl⟩;dsimp only;refine À (seqEpoch_at ho7 rfl ?_);rw[kat_snds rfl har];refine À (listUpdate_at ho7 rfl ?_ (hsz2:=by rw[Ú,Ð,ä,hp,sizeLine_eq];omega));rw[hf];simp only[bne_self_eq_false,Ý,if_false];refine Ã ?_;rw[<-hs1];exact h p pm up
noncomputable abbrev TL:=Addr×List Int
noncomputable def TIs(h:Heap)(ts:List TL):Prop:=∀t∈ts,∃(o:Obj) (us:List Æ) (n:Nat),h.get? t.1=some o/\o.cls=.type "tuple"/\o.data=.seq us.toArray n/\Ļ us t.2
noncomputable def cr(ts:List TL):List Æ:=ts.map λt=>ã t.1
noncomputable def cg(ts:List TL):List V:=ts.map λt=>V.ref t.1
theorem qim:∀{ts:List TL}{us:List Æ},Vals (cg ts) us->us=cr ts
 |[],_,.nil=>rfl
 |t::ts,_,.cons r q=>by
  rw[qim q];cases r;rfl
theorem qft:∀(ts:List TL),Vals (cg ts) (cr ts)
 |[]=>.nil
 |t::ts=>.cons rfl (qft ts)
theorem yco(d:α)(l:List α):(õ l.length).map (λi=>l.getD i d)=l:=by
 refine List.ext_getElem? λi=>?_;rw[Ĉ];by_cases h:i<l.length
 ·rw[List.getElem?_range h,Í h];simp[à,h]
 ·rw[ŝ (by omega:l.length<=i),ŝ (by simpa using h)];rfl
theorem ygq(d:α)(l:List α){p:Array Nat}(h:PmN p l.length):(p.toList.map λi=>l.getD i d).Perm l:=by
 have:=(Array.perm_iff_toList_perm.mp h).map (λi=>l.getD i d);rw[List.toList_toArray,yco]at this;exact this
theorem rise_out(f:Nat->α)(key:α->Int)(hs:p.size=n)(hk:∀i,key (f i)=g i)(h:UpTo g p n):(p.toList.map f).Pairwise λa b=>key a<=key b:=by
 rw[List.pairwise_iff_getElem];intro i j hi hj hij;rw[Ð,ä]at hi hj;have:=h i j (γ hij) (by omega);rw[List.getElem_map,List.getElem_map,hk,hk];unfold Gk at this
 simpa [Array.getD,hi,hj] using this
theorem qdh
  (h:Ë (model prog w) A.in1 (collect v) (λvs s1=>vs.length<64/\(∀(s2:Ç),s2={ s1 with heap:=s1.heap.push (ī "list" vs.toArray 0) }->
   Ë (model prog w) A.in1.in1 (Ĵ.«list.sort» ⟨[.ref s1.heap.objs.size],[]⟩) (λf s3=>f=.done (.ret .none)/\Q (.ref s1.heap.objs.size) s3) (λ_ _=>False) s2)) E s) :
  Ë (model prog w) A (call (.builtin "sorted") [v]) Q E s:=by
 refine Calls.call_function_entry kind_sorted plain_sorted entry_sorted (args_sorted1 v) ?_;unfold Ĵ.«sorted»;refine À (m:=checkCount "sorted" 1 1 _) ?_;refine Ã ?_;refine À (Ň h (λvs s1 hq=>?_) λ_ _ x=>x);obtain ⟨h64,k⟩:=hq;refine À (wpAny_newList ?_ (qf7 (by omega)));have gL:(s1.heap.push (ī "list" vs.toArray 0)).get? s1.heap.objs.size=some (ī "list" vs.toArray 0):=Ô _ rfl;refine À (î (å slot_list_sort ⟨_,gL,rfl⟩ entry_list_sort (Ň (k _ rfl) (λf s3 hf=>?_) λ_ _ x=>x.elim) (args_list_sort _)));obtain ⟨rfl,q⟩:=hf;exact ⟨_,rfl,Ã ⟨_,rfl,q⟩⟩
theorem qju(K:KdlSrc prog w T r d n P OK)(hh:A.handled=none)(hok:OK s.heap)(hn:n<=Õ)
  (k:∀h' tk acc c,h'.get? s.heap.objs.size=some { cls:=.type "list",dict:=none,data:=.seq acc c,slots:=#[] }->ItemsOf P acc n->(∀b o,s.heap.get? b=some o->h'.get? b=some o)->R (.ok (.ret (.ref s.heap.objs.size))) { s with heap:=h',toks:=tk }) :
  ag (model prog w) A (.builtin "proto.collect" ⟨[.ref r],[]⟩) R s:=by
 have hlt:=K.there _ hok;refine ĺ F.entry_proto_collect ?_;rw[ĥ F.plain_proto_collect _];show Ë _ A.in1 (newList [] >>= λl=>again (.builtin "list.__iadd__" ⟨[l,.ref r],[]⟩)) _ _ s;refine À (Ą ?_);refine Ã ⟨Ζ F.plain_list_iadd _,?_⟩;refine ĺ F.entry_list_iadd ?_;rw[ĥ F.plain_list_iadd _];show Ë _ A.in1 (Ν (.ref s.heap.objs.size) (.ref r) (.ref s.heap.objs.size)) _ _ _;have g0:(s.heap.push { cls:=.type "list",data:=.seq ([]:List Æ).toArray }).get? s.heap.objs.size=some { cls:=.type "list",data:=.seq #[] }:=Ô _ rfl;refine kdl_extend (R:=R) (s:={ s with heap:=s.heap.push { cls:=.type "list",data:=.seq ([]:List Æ).toArray } }) K hh (K.keep _ _ hok λb _ o e=>È _ e) _ (ai hlt.1) (ai hlt.2) _ 0 g0 (λh' tk acc c kp g it=>?_) hn;exact k h' tk acc c g it λb o e=>kp b o (ĉ (é e)) (È _ e)
theorem fI(K:KdlSrc prog w T r d n P OK)(hh:A.handled=none)(hok:OK s.heap)(hn:n<=Õ)
  (k:∀vs h' tk,vs.length=n->(∀(j:Nat) v,vs[j]?=some v->P j v)->s.heap.objs.size<h'.objs.size->(∀b o,s.heap.get? b=some o->h'.get? b=some o)->Q vs { s with heap:=h',toks:=tk }) :
  Ë (model prog w) A (collect (.ref r)) Q E s:=by
 unfold collect;refine À (wpAny_runValue (qju K hh hok hn λh' tk acc c g it kp=>?_));refine À (wpAny_load g ?_);exact Ã (k acc.toList h' tk (by rw[ä];exact it.1) (λj v e=>it.2 j v (by rw[<-ğ];exact e)) (é g) kp)
end
section
variable {prog:Ü}{w:ï}{A:Ā}{E:Æ->Ç->Prop}{s:Ç}{it d:Addr}{es:Array DictEntry}{ep i:Nat}
noncomputable def qds(h:Heap)(d:Addr)(es:Array DictEntry)(ep:Nat):Prop:=∃o,h.get? d=some o/\o.ExactDict/\o.data=.dict es ep
theorem qds.ty(x:qds s.heap d es ep):s.TypeIs (.ref d) "dict":=let ⟨o,ho,hc,_⟩:=x;⟨o,ho,hc.1⟩
theorem qds.at_(x:qds h d es ep)(k:∀o,h.get? d=some o->h'.get? d=some o):qds h' d es ep:=let ⟨o,ho,r⟩:=x;⟨o,k _ ho,r⟩
theorem iterE(hd:(d == Ħ)=false)(hm:qds s.heap d es ep)
  (hQ:Q (.ref s.heap.objs.size) { s with heap:=s.heap.push { cls:=.type "dict_keyiterator",data:=.fields #[.ref d,.int 0 0,.int es.size 0,.int ep 0] } }):Ë (model prog w) A (pyIter (.ref d)) Q E s:=by
 obtain ⟨o,ho,hc,hdat⟩:=id hm;refine wpAny_pyIter_slot hm.ty F.slot_dict_iter (å F.slot_dict_iter hm.ty F.entry_dict_iter ?_ (F.args_dict_iter_1 _));unfold Ĵ.«dict.__iter__»;refine À ?_;unfold Builtin.Dict.dictSlotNone;refine À (wpAny_notOrdered_dict hm.ty ?_);show Ë _ _ (pure (ã d)) _ _ s;refine Ã ?_;show Ë _ _ (Builtin.Dict.showsAll d >>= _) _ _ s;unfold Builtin.Dict.showsAll;rw[if_neg (by rw[hd];exact ú)];refine À (Ã (À (ac ho hdat (À (wpAny_dictEpoch ho hdat ?_)))));exact À (Ą (Ã ⟨_,rfl,"dict_keyiterator",_,⟨_,Ô _ rfl,rfl⟩,F.slot_dict_keyiterator_next.lookup,hQ⟩))
theorem nextE(hit:s.heap.IsKeyIter it d i es.size ep)(hm:qds s.heap d es ep)(hi:i<es.size)
  (hQ:∀h',h'.IsKeyIter it d (i+1) es.size ep->ü it s.heap h'->Q (some es[i].key) { s with heap:=h' }):Ë (model prog w) A (Ř (.ref it)) Q E s:=by
 obtain ⟨o,ho,hc,hd⟩:=id hit;obtain ⟨od,hod,hcd,hdd⟩:=id hm;unfold Ř;refine À (ĩ (è (name:=Ċ "__next__") hit.typeIs Ū
  (å Ū hit.typeIs F.entry_dict_keyiterator_next ?_ (F.args_dict_keyiterator_next_1 _))))
 refine À (Ã (À (À ?_)))
 first|refine À (ţ hit.typeIs (Ã ?_))|refine À (Ε hit.typeIs (Ã ?_))
 refine À (Ω ho hd ?_);simp only[show Builtin.Dict_items.ownsTuple "dict_keyiterator"=false by decide,Ý,if_false];show Ë _ _ (if (ã d == ó)=true then _ else _) _ _ s;rw[if_neg (show ¬ ((ã d == ó)=true) from ú)];refine À (Ã (À (ac hod hdd ?_)));rw[if_neg (by simp)];refine À (Ã (À (wpAny_dictEpoch hod hdd ?_)));rw[if_neg (by simp)];refine Ã ?_;simp only[show ¬ ((i:Int)<0) from by omega,if_false,aJ,ç hi];refine À ?_
 first|refine À (ţ hit.typeIs (Ã ?_))|refine À (Ε hit.typeIs (Ã ?_))
 refine À (wpAny_isOneOf_keyiter hit.typeIs ?_);show Ë _ _ (setField (.ref it) 1 (đ ((i:Int)+1)) >>= _) _ _ s;refine À (wpAny_setField ho hd (by simp) ?_);have hit':(s.heap.update it (Obj.mapFields (·.setIfInBounds 1 (đ ((i:Int)+1))))).IsKeyIter it d (i+1) es.size ep:=
  ⟨_,Ő _ ho (Obj.isFreed_of_fields (aU hd _)),(Obj.cls_mapFields ..).trans hc,by rw[aU hd];simp[đ]⟩
 refine À (î ?_);refine À (wpAny_isOneOf_keyiter (s:={ s with heap:=s.heap.update it (Obj.mapFields (·.setIfInBounds 1 (đ ((i:Int)+1)))) }) hit'.typeIs ?_);show Ë _ _ (pure es[i].key) _ _ _;exact Ã (Ã ⟨_,rfl,Ã (hQ _ hit' (ę ..))⟩)
theorem endE(hh:A.handled=none)(hit:s.heap.IsKeyIter it d i es.size ep)(hm:qds s.heap d es ep)(hi:es.size<=i)
  (hQ:∀h',Heap.ExtBut it s.heap h'->Q none { s with heap:=h' }):Ë (model prog w) A (Ř (.ref it)) Q E s:=by
 obtain ⟨o,ho,hc,hd⟩:=id hit;obtain ⟨od,hod,hcd,hdd⟩:=id hm;unfold Ř;refine À (ĩ (è (name:=Ċ "__next__") hit.typeIs Ū
  (å Ū hit.typeIs F.entry_dict_keyiterator_next ?_ (F.args_dict_keyiterator_next_1 _))))
 refine À (Ã (À (À ?_)))
 first|refine À (ţ hit.typeIs (Ã ?_))|refine À (Ε hit.typeIs (Ã ?_))
 refine À (Ω ho hd ?_);simp only[show Builtin.Dict_items.ownsTuple "dict_keyiterator"=false by decide,Ý,if_false];show Ë _ _ (if (ã d == ó)=true then _ else _) _ _ s;rw[if_neg (show ¬ ((ã d == ó)=true) from ú)];refine À (Ã (À (ac hod hdd ?_)));rw[if_neg (by simp)];refine À (Ã (À (wpAny_dictEpoch hod hdd ?_)));rw[if_neg (by simp)];refine Ã ?_;simp only[show ¬ ((i:Int)<0) from by omega,if_false,aJ,Array.getElem?_eq_none hi];refine À ?_
 first|refine À (ţ hit.typeIs (Ã ?_))|refine À (Ε hit.typeIs (Ã ?_))
 show Ë _ _ (setField (.ref it) 0 .none >>= _) _ _ s;refine À (wpAny_setField ho hd (by simp) ?_);show Ë _ _ (newExc (.type "StopIteration") [] >>= _) _ _ _;refine À ?_;simp only[newExc,newTuple];refine À (Ą ?_ (by size_fits));refine À (m:=af _ _) (Ť (a:=ó) (by first|rfl|(simp only[af];rfl)) ?_);refine Ą ?_ (by size_fits);simp only[raiseNew];refine À (wpAny_handled ?_);rw[show A.in1.handled=none from hh];refine À (Ã (wpAny_throw ?_));refine À (Ĳ (T:="StopIteration") (b:=true) ⟨_,Ô _ rfl,rfl⟩ ae ?_);exact Ã (hQ _ (((ę ..).extBut.push _).push _))
theorem walksE(hh:A.handled=none)(I d:Addr)(hne:d≠I)(es:Array DictEntry)(ep:Nat) :
  Walks prog w A I [I,d] [I] es.size (λi v=>∃e,es[i]?=some e/\v=e.key) (λi h=>h.IsKeyIter I d i es.size ep/\qds h d es ep) where
 sub:=λb hb=>by simp at hb;simp[hb]
 frame:=λ_ _ _ st hk=>⟨st.1.at λo e=>hk I (by simp) o e,st.2.at_ λo e=>hk d (by simp) o e⟩
 item:=λi s Q E hi st hQ=>by
  refine nextE st.1 st.2 hi λh' hit' hs'=>?_;exact hQ _ h' s.toks ⟨es[i],by simp[hi],rfl⟩ ⟨hit',st.2.at_ λo e=>hs'.extBut d o hne e⟩ λb o hb e=>hs'.extBut b o (λh=>hb (by simp[h])) e
 done:=λs Q E st hQ=>endE hh st.1 st.2 (Ò _) λh' he'=>hQ h' s.toks λb o hb e=>he' b o (λh=>hb (by simp[h])) e
 self:=λ_ _ _ _ st hQ=>wpAny_pyIter_keyiter st.1 hQ
theorem srcE(lo:(d == Ħ)=false):KdlSrc prog w "dict" d d es.size (λi v=>∃e,es[i]?=some e/\v=e.key) (λh=>qds h d es ep) where
 type:=λ_ hm=>hm.ty
 there:=λ_ ⟨o,ho,_⟩=>⟨é ho,é ho⟩
 keep:=λ_ _ hm hk=>hm.at_ λo e=>hk d (.inl rfl) o e
 notList:=by decide
 notTuple:=by decide
 hint:=λ_ _ _ _ hm hq=>kdl_hint_dict hm.ty hq
 iter:=λ_ _ hh hm=>⟨_,_,(λ_ _ hq=>iterE lo hm hq),walksE hh _ d (let ⟨_,ho,_⟩:=hm;ĉ (é ho)) es ep,⟨⟨_,Ô _ rfl,rfl,rfl⟩,hm.at_ λo e=>È _ e⟩⟩
end
end L2
namespace L2
open PySem PySem.Spec PyProof.Rows
theorem for_by{J:It}{n:Nat}{g:TG}{tb:TS}{D:Ends}{σ:St}{H:Hp}(Pv:Nat->St->Hp->Prop)(h0:Pv 0 σ H)(hd:∀σ H,Pv n σ H->J.stop n H/\D.nx σ H)
  (hs:∀i σ H,i<n->Pv i σ H->J.go i H/\∀x H',J.yld i H x H'->g x σ H' λσ2 H2=>tb { D with nx:=Pv (i+1),ct:=Pv (i+1),bk:=D.nx } σ2 H2) :
  ∃W:Nat->Nat->St->Hp->Prop,(∃m,W 0 m σ H)/\∀i m σ H,W i m σ H->
   (J.stop i H/\D.nx σ H)\/(J.go i H/\∃N:St->Hp->Prop,(∀σ' H',N σ' H'->∃m',m' < m/\W (i+1) m' σ' H')/\∀x H',J.yld i H x H'->g x σ H' λσ2 H2=>tb { D with nx:=N,ct:=N,bk:=D.nx } σ2 H2):=by
 refine ⟨λi m σ H=>m=n-i/\i<=n/\Pv i σ H,⟨n,by simp,ķ _,h0⟩,?_⟩;rintro i m σ H ⟨rfl,hi,p⟩;by_cases hlt:i<n
 ·obtain ⟨g1,g2⟩:=hs i σ H hlt p;exact .inr ⟨g1,Pv (i+1),λσ' H' p'=>⟨n-(i+1),by omega,rfl,hlt,p'⟩,g2⟩
 ·have e:i=n:=by omega
  subst e;exact .inl (hd σ H p)
noncomputable def Srt(xs:Array Nat):Prop:=∀(i j:Nat) (x y:Nat),i<j->xs[i]?=some x->xs[j]?=some y->x<y
theorem qem(xs:Array Nat)(j:Nat)(hs:Srt xs):∀(fuel lo hi:Nat),hi-lo<=fuel->lo<=hi->hi<=xs.size->(∀k x,k<lo->xs[k]?=some x->x<j)->(∀k x,hi<=k->xs[k]?=some x->j<=x)->
  (∀k x,k<SetTable.below.go xs j fuel lo hi->xs[k]?=some x->x<j)/\(∀k x,SetTable.below.go xs j fuel lo hi<=k->xs[k]?=some x->j<=x)/\SetTable.below.go xs j fuel lo hi<=xs.size
 |0,lo,hi,hf,h1,h2,ha,hb=>by
  have e:lo=hi:=by omega
  subst e;exact ⟨ha,hb,h2⟩
 |fuel+1,lo,hi,hf,h1,h2,ha,hb=>by
  unfold SetTable.below.go;by_cases hlt:lo<hi
  ·rw[if_pos hlt];have hm:(lo+hi) / 2<xs.size:=by omega
   have hg:xs[(lo+hi) / 2]?=some (xs.getD ((lo+hi) / 2) j):=by
    rw[ŕ,ç hm];rfl
   dsimp only;by_cases hc:xs.getD ((lo+hi) / 2) j<j
   ·rw[if_pos hc];refine qem xs j hs fuel _ hi (by omega) (by omega) h2 (λk x hk hx=>?_) hb;by_cases he:k=(lo+hi) / 2
    ·subst he;rw[hg]at hx;cases hx;exact hc
    ·have:=hs k ((lo+hi) / 2) x _ (by omega) hx hg;omega
   ·rw[if_neg hc];refine qem xs j hs fuel lo _ (by omega) (by omega) (by omega) ha (λk x hk hx=>?_);by_cases he:k=(lo+hi) / 2
    ·subst he;rw[hg]at hx;cases hx;omega
    ·have:=hs ((lo+hi) / 2) k _ x (by omega) hg hx;omega
  ·rw[if_neg hlt];have e:lo=hi:=by omega
   subst e;exact ⟨ha,hb,h2⟩
theorem yev(j:Nat)(hs:Srt xs):(∀k x,k<Ö xs j->xs[k]?=some x->x<j)/\(∀k x,Ö xs j<=k->xs[k]?=some x->j<=x)/\Ö xs j<=xs.size:=by
 unfold Ö;refine qem xs j hs xs.size 0 xs.size (by omega) (ķ _) (Ò _) (λk x h=>absurd h (not_lt_zero _)) (λk x h hx=>?_);rw[Array.getElem?_eq_none h]at hx;cases hx
theorem qed(hs:Srt xs)(hn:n<=xs.size)(h1:∀k x,k<n->xs[k]?=some x->x<j)(h2:∀k x,n<=k->xs[k]?=some x->j<=x):Ö xs j=n:=by
 obtain ⟨b1,b2,b3⟩:=yev j hs;rcases Nat.lt_trichotomy (Ö xs j) n with h|h|h
 ·have hlt:Ö xs j<xs.size:=by omega
  have g:=ç hlt;have:=h1 _ _ h g;have:=b2 _ _ (Ò _) g;omega
 ·exact h
 ·have hlt:n<xs.size:=by omega
  have g:=ç hlt;have:=h2 _ _ (Ò _) g;have:=b1 _ _ h g;omega
theorem qa2(xs:Array α)(p:Nat)(x:α)(hp:p<=xs.size)(i:Nat):(ø xs p x)[i]?=if i<p then xs[i]? else if i=p then some x else xs[i-1]?:=by
 unfold ø;have e1:((xs.extract 0 p).push x++xs.extract p xs.size).toList=xs.toList.take p++x::xs.toList.drop p:=by
  simp;exact List.take_of_length_le (by simp)
 rw[<-ğ,e1];have hl:(xs.toList.take p).length=p:=by rw[aN,ä];omega
 by_cases h1:i<p
 ·rw[if_pos h1,ë (by omega),List.getElem?_take_of_lt h1,ğ]
 ·rw[if_neg h1,ö (by omega),hl];by_cases h2:i=p
  ·rw[if_pos h2,h2,sub_self];rfl
  ·rw[if_neg h2];obtain ⟨d,hd⟩:∃d,i-p=d+1:=⟨i-p-1,by omega⟩;rw[hd,List.getElem?_cons_succ,getElem?_drop,ğ];congr 1;omega
theorem yhn(hs:Srt xs)(hj:xs[Ö xs j]?≠some j):Srt (ø xs (Ö xs j) j):=by
 obtain ⟨b1,b2,b3⟩:=yev j hs;have hgt:∀k x,Ö xs j<=k->xs[k]?=some x->j<x:=λk x hk hx=>by
  have h1:=b2 k x hk hx;by_cases he:x=j
  ·subst he;by_cases hk2:k=Ö xs x
   ·subst hk2;exact absurd hx hj
   ·have hlt:Ö xs x<xs.size:=by
     have:=(ĳ.mp hx).1;omega
    have g:=ç hlt;have h2:=hs _ k _ x (by omega) g hx;have h3:=b2 _ _ (Ò _) g;omega
  ·omega
 intro a b x y hab hx hy;rw[qa2 _ _ _ b3]at hx hy;by_cases ha:a<Ö xs j
 ·rw[if_pos ha]at hx;by_cases hb:b<Ö xs j
  ·rw[if_pos hb]at hy;exact hs a b x y hab hx hy
  ·rw[if_neg hb]at hy;have hxj:=b1 a x ha hx;by_cases hb2:b=Ö xs j
   ·rw[if_pos hb2]at hy;cases hy;exact hxj
   ·rw[if_neg hb2]at hy;have:=hgt (b-1) y (by omega) hy;omega
 ·rw[if_neg ha]at hx;have hb:¬ b<Ö xs j:=by omega
  rw[if_neg hb]at hy;by_cases ha2:a=Ö xs j
  ·rw[if_pos ha2]at hx;cases hx;rw[if_neg (by omega)]at hy;exact hgt (b-1) y (by omega) hy
  ·rw[if_neg ha2]at hx;rw[if_neg (by omega)]at hy;exact hs (a-1) (b-1) x y (by omega) hx hy
theorem yi2(n:Nat):Srt (Array.range n):=by
 intro i j x y hij hx hy;have h1:=(ĳ.mp hx).2;have h2:=(ĳ.mp hy).2;simp at h1 h2;omega
theorem srt_of{l:List Nat}(h:l.Pairwise (· < ·)):Srt l.toArray:=by
 intro i j x y hij hx hy;have hx':l[i]?=some x:=by simpa using hx
 have hy':l[j]?=some y:=by simpa using hy
 obtain ⟨hi,e1⟩:=É.mp hx';obtain ⟨hj,e2⟩:=É.mp hy';have:=List.pairwise_iff_getElem.mp h i j hi hj hij;rw[e1,e2]at this;exact this
noncomputable def TOk(t:ė):Prop:=Srt t.place/\t.dummies=#[]
theorem qc4(j:Nat):SetTable.has #[] j=false:=by
 unfold SetTable.has;simp
theorem yfz(h:TOk t)(j:Nat):t.slot j≠.dummy:=by
 unfold SetTable.slot;rw[h.2,qc4];dsimp only;split
 ·intro z;cases z
 ·simp
theorem qh6{t:ė}{j:Nat}(h:t.slot j=.empty):t.place[Ö t.place j]?≠some j:=by
 intro e;unfold SetTable.slot at h;dsimp only at h;rw[if_pos (by rw[e];simp)]at h;cases h
theorem ycb(t:ė)(p:ě):(t.advance p).dummy=p.dummy:=by
 unfold SetTable.advance;split<;>rfl
theorem ydm(ht:TOk t)(f:Nat->Int)(h:Int):∀(fuel:Nat) (p:ě) (j:Nat) (d:Option Nat),p.dummy=none->Ě t f h fuel p=some (.empty j d)->t.slot j=.empty/\d=none
 |0,p,j,d,hp,e=>by
  unfold Ě at e;cases e
 |fuel+1,p,j,d,hp,e=>by
  unfold Ě at e;split at e
  ·rename_i hs
   cases e;exact ⟨hs,hp⟩
  ·rename_i hs
   exact absurd hs (yfz ht _)
  ·split at e
   ·cases e
   ·exact ydm ht f h fuel _ j d (by rw[ycb];exact hp) e
theorem qgl(ht:TOk t){h:Int}{j:Nat}{b:Bool}(e:t.freeSlot h=some (j,b)):t.slot j=.empty:=by
 unfold SetTable.freeSlot at e;split at e
 ·rename_i j' d hp
  have hq:Ě t (λ_=>h+1) h (10*SetTable.turns t.mask) (t.probeStart h)=some (.empty j' d):=hp;obtain ⟨h1,h2⟩:=ydm ht _ _ _ _ _ _ rfl hq;subst h2;cases e;exact h1
 ·cases e
theorem put_ok{t:ė}(ht:TOk t){j:Nat}(h:t.slot j=.empty):TOk (t.put j).1/\(t.put j).1.led=t.led:=by
 refine ⟨⟨yhn ht.1 (qh6 h),?_⟩,rfl⟩;show (if SetTable.has t.dummies j then SetTable.eraseAt t.dummies (Ö t.dummies j) else t.dummies)=#[];rw[ht.2,qc4];rfl
theorem ybw(t:ė)(n:Nat):TOk (t.standIn n)/\(t.standIn n).led=t.led:=⟨⟨yi2 n,rfl⟩,rfl⟩
theorem ye2(ht:TOk t)(n:Nat):TOk (t.orStandIn n)/\(t.orStandIn n).led=t.led:=by
 unfold SetTable.orStandIn;split
 ·exact ⟨ht,rfl⟩
 ·exact ybw t n
theorem ykd(ht:TOk t)(es:Array (Int×Æ))(h:Int)(x:Æ):TOk (layNew t es h x).2.1/\(layNew t es h x).2.1.led=t.led:=by
 unfold layNew;split
 ·rename_i j b e
  have hp:=put_ok ht (qgl ht e);have ho:=ye2 hp.1 (ø es (t.put j).2 (h,x)).size;exact ⟨ho.1,ho.2.trans hp.2⟩
 ·exact ybw t _
theorem qci(f:Nat->Option α):∀(l:List Nat),l.Pairwise (· < ·)->((l.filterMap λj=>(f j).map (j,·)).map (·.1)).Pairwise (· < ·):=by
 intro l hl;have hsub:((l.filterMap λj=>(f j).map (j,·)).map (·.1)).Sublist l:=by
  induction l with
  |nil=>exact .slnil
  |cons a l ih=>
   rw[Ę];have:=ih (pairwise_cons.mp hl).2;cases f a with
   |none=>exact .cons _ this
   |some b=>exact .cons₂ _ this
 exact hl.sublist hsub
theorem yiu{t t':ė}{hs:Array Int}{n:Nat}{o:Array Nat}(e:t.relaid hs n=some (t',o)):TOk t'/\t'.led=t.led:=by
 unfold SetTable.relaid SetTable.laid at e;cases ho:SetTable.layClean (SetTable.sizeAbove n-1) hs with
 |none=>rw[ho]at e;cases e
 |some owner=>
  rw[ho]at e;cases e;refine ⟨⟨srt_of ?_,rfl⟩,rfl⟩;exact qci (λj=>owner.getD j none) _ List.pairwise_lt_range
theorem qgg(es:Array (Int×Æ))(n:Nat):TOk (relayAll t es n).2.1/\(relayAll t es n).2.1.led=t.led:=by
 unfold relayAll;split
 ·rename_i t' o e
  dsimp only;split
  ·exact yiu e
  ·exact ybw t _
 ·exact ybw t _
noncomputable def byTx(w:ï):Bool:=w.params.followText "set-order"
noncomputable def SetL(P:Ü)(w:ï)(h:Heap)(a:Addr)(ks:List Int):Prop:=
 ∃o es ep t,h.get? a=some o/\o.ExactSet/\o.data=.set es ep t/\ElemsOf (Ù P w) es.toList/\(∃ns,Ļ (es.toList.map (·.2)) ns/\ns.Perm ks)/\es.size<aD/\t.fits es.size=true/\TOk t/\(byTx w=true\/t.led=true)
theorem yde(p:vs'.Perm vs):∀{ns:List Int},Ļ vs ns->∃ns',Ļ vs' ns'/\ns'.Perm ns:=by
 induction p with
 |nil=>intro ns h;exact ⟨ns,h,ς _⟩
 |cons x _ ih=>
  intro ns h;cases h with
  |cons n t r=>
   obtain ⟨ns',h1,h2⟩:=ih r;exact ⟨n::ns',.cons n t h1,h2.cons n⟩
 |swap x y l=>
  intro ns h;cases h with
  |cons n t r=>
   cases r with
   |cons m u r=>exact ⟨m::n::_,.cons m u (.cons n t r),List.Perm.swap ..⟩
 |trans _ _ ih1 ih2=>
  intro ns h;obtain ⟨n1,a1,b1⟩:=ih2 h;obtain ⟨n2,a2,b2⟩:=ih1 a1;exact ⟨n2,a2,b2.trans b1⟩
theorem qef:∀{vs:List Æ}{ns:List Int},Ļ vs ns->(∀v∈vs,∃n t,v=.int n t/\n∈ns)/\∀n∈ns,∃t,Ρ n t∈vs
 |_,_,.nil=>⟨λv h=>by simp at h,λn h=>by simp at h⟩
 |_,_,.cons n t r=>by
  obtain ⟨h1,h2⟩:=qef r;refine ⟨λv hv=>?_,λm hm=>?_⟩
  ·rcases ñ.mp hv with rfl|hv
   ·exact ⟨n,t,rfl,Ì ..⟩
   ·obtain ⟨m,u,e,hm⟩:=h1 v hv;exact ⟨m,u,e,Ê _ hm⟩
  ·rcases ñ.mp hm with rfl|hm
   ·exact ⟨t,Ì ..⟩
   ·obtain ⟨u,hu⟩:=h2 m hm;exact ⟨u,Ê _ hu⟩
theorem yfs:∀{vs:List Æ}{ns:List Int} (k:Int) (t:Tok),Ļ vs ns->Ļ (vs++[.int k t]) (ns++[k])
 |_,_,k,t,.nil=>.cons k t .nil
 |_,_,k,t,.cons n u r=>.cons n u (yfs k t r)
section
variable {P:Ü}{w:ï}{A:Ā}{E:Æ->Ç->Prop}{s:Ç}{a:Addr}{ks:List Int}
theorem fe{o:Obj}{es:Array (Int×Æ)}{ep:Nat}{t:ė}{es':Array (Int×Æ)}{t':ė}{ks':List Int}{h:Heap}(g:h.get? a=some o)(gx:o.ExactSet)(gd:o.data=.set es ep t)
  (el:ElemsOf (Ù P w) es'.toList) (hv:∃ns,Ļ (es'.toList.map (·.2)) ns/\ns.Perm ks') (hb:es'.size<aD) (hf:t'.fits es'.size=true) (ht:TOk t') (hl:byTx w=true\/t'.led=true) :
  (h.update a (Obj.putSet es' t')).get? a=some { o with data:=.set es' (ep+1) t' }/\SetL P w (h.update a (Obj.putSet es' t')) a ks':=by
 have hg:(h.update a (Obj.putSet es' t')).get? a=some { o with data:=.set es' (ep+1) t' }:=by
  have z:=Ő (Obj.putSet es' t') g (by rw[putSet_of es' t' gd];rfl);rw[putSet_of es' t' gd]at z;exact z
 exact ⟨hg,_,es',ep+1,t',hg,gx,rfl,el,hv,hb,hf,ht,hl⟩
theorem addL{k:Int}{tk:Tok}{Q:Bool->Ç->Prop}(hS:SetL P w s.heap a ks)(hroom:ks.length+1<aD)
  (h:∀b h',ü a s.heap h'->SetL P w h' a (if k∈ks then ks else ks++[k])->Q b { s with heap:=h' }) :
  Ë (model P w) A (setAddHashed a (.int k tk) ((Ù P w).hash k)) Q E s:=by
 obtain ⟨o,es,ep,t,g,gx,gd,el,⟨ns,hi,hp⟩,hb,hf,ht,hl⟩:=hS;have hlen:es.size=ks.length:=by
  have h1:=IntsAre.length hi;rw[Ð,ä]at h1;rw[h1,hp.length_eq]
 have kk:(Ù P w).is k (.int k tk)=true:=intKind_is _ _ _ _;unfold setAddHashed setAddHashedIn;refine î (À (Ĭ g gd hf ?_));dsimp only;rw[byScan_of (knd:=Ù P w) rfl hb el];simp only[↓reduceIte];unfold setAddByScan;refine À ?_;refine À (Ũ ?_);refine À (wpAny_setScan_of kk g gd hf el ?_);have same:∀m u,(Ù P w).is k (.int m u)=true->m=k:=λm u z=>(Ù P w).inj _ m k (intKind_is _ _ _ _) z;cases hr:List.findIdx? (λe=>(Ù P w).is k e.2) es.toList with
 |some j=>
  dsimp only;obtain ⟨hj,hpj,_⟩:=Β.mp hr;have hin:k∈ks:=by
   obtain ⟨m,u,e,hm⟩:=(qef hi).1 (es.toList[j]).2 (mem_map.mpr ⟨_,ε hj,rfl⟩);rw[e]at hpj;have:=same m u hpj;subst this;exact hp.mem_iff.mp hm
  refine Ã (Ã ?_);have e:s={ s with heap:=s.heap }:=by cases s;rfl
  have z:=h false s.heap (Heap.SameBut.refl a s.heap) (by rw[if_pos hin];exact ⟨o,es,ep,t,g,gx,gd,el,⟨ns,hi,hp⟩,hb,hf,ht,hl⟩);rw[e];exact z
 |none=>
  dsimp only;have hout:k∉ks:=λhin=>by
   obtain ⟨u,hu⟩:=(qef hi).2 k (hp.mem_iff.mpr hin);obtain ⟨e,he,e2⟩:=Ō.mp hu;have z:=List.findIdx?_eq_none_iff.mp hr e he;rw[e2]at z;rw[show (Ù P w).is k (.int k u)=true from intKind_is _ _ _ _]at z;cases z
  rw[if_neg hout]at h;have gw:∀(b:Bool) {s1:Ç}{Q':Unit->Ç->Prop},Q' () s1->Ë (model P w) A (match b with|true=>rule "set.scan.the-table-gave-way"|false=>pure ()) Q' E s1:=λb s1 Q' z=>by cases b<;>first|exact Ã z|exact Ũ z
  have pm:=layNew_perm t es ((Ù P w).hash k) (.int k tk);have fm:=layNew_fits t es ((Ù P w).hash k) (.int k tk);have tm:=ykd ht es ((Ù P w).hash k) (.int k tk);generalize hL:layNew t es ((Ù P w).hash k) (.int k tk)=L at pm fm tm ⊢;obtain ⟨es1,t1,wasDummy,gave⟩:=L;dsimp only at pm fm tm ⊢;rw[Array.toList_push]at pm;have el1:ElemsOf (Ù P w) es1.toList:=(el.push kk rfl).perm pm;have hv1:∃ns,Ļ (es1.toList.map (·.2)) ns/\ns.Perm (ks++[k]):=by
   have q:=pm.map (·.2);rw[ň]at q;obtain ⟨n1,i1,p1⟩:=yde q (yfs k tk hi);exact ⟨n1,i1,p1.trans (hp.append_right [k])⟩
  have sz1:es1.size=ks.length+1:=by
   rw[<-ä,pm.length_eq,Ó,ä,hlen];rfl
  have hb1:es1.size<aD:=by rw[sz1];exact hroom
  refine À (gw _ ?_);have tail:∀(t2:ė),t2.fits es1.size=true->TOk t2->(byTx w=true\/t2.led=true)->Ë (model P w) A (do
    storeSet a es1 t2
    if (!wasDummy&&t2.tooFull)=true then do
      (match (relayAll t2 es1 (Ŗ es1.size)).2.2 with|true=>rule "set.scan.the-table-gave-way"|false=>pure ())
      storeSet a (relayAll t2 es1 (Ŗ es1.size)).1 (relayAll t2 es1 (Ŗ es1.size)).2.1
      pure (some true)
     else pure (some true)) (λr s1=>Ë (model P w) A (match r with|some added=>pure added|none=>setAddHashedIn a (.int k tk) ((Ù P w).hash k) 99999) Q E s1) E s:=by
   intro t2 f2 k2 l2;refine À (wpAny_storeSet_of g gd ?_ (fits_of_scanBound hb1));obtain ⟨g1,S1⟩:=fe (P:=P) (w:=w) g gx gd el1 hv1 hb1 f2 k2 l2;have sb1:=ę s.heap a (Obj.putSet es1 t2);split
   ·have pr:=relayAll_perm t2 es1 (Ŗ es1.size);have fr:=relayAll_fits t2 es1 (Ŗ es1.size);have tr:=qgg (t:=t2) es1 (Ŗ es1.size);generalize hR:relayAll t2 es1 (Ŗ es1.size)=R at pr fr tr ⊢;obtain ⟨es2,t3,gave2⟩:=R;dsimp only at pr fr tr ⊢;have sz2:es2.size=es1.size:=by rw[<-ä,pr.length_eq,ä]
    have hb2:es2.size<aD:=by rw[sz2];exact hb1
    refine À (gw _ ?_);refine À (wpAny_storeSet_of g1 rfl ?_ (fits_of_scanBound hb2));have hv2:∃ns,Ļ (es2.toList.map (·.2)) ns/\ns.Perm (ks++[k]):=by
     obtain ⟨n1,i1,p1⟩:=hv1;obtain ⟨n2,i2,p2⟩:=yde (pr.map (·.2)) i1;exact ⟨n2,i2,p2.trans p1⟩
    obtain ⟨_,S2⟩:=fe (P:=P) (w:=w) g1 gx rfl (el1.perm pr) hv2 hb2 fr tr.1 (l2.imp id λz=>tr.2.trans z);exact Ã (Ã (h true _ (sb1.trans (ę _ a _)) S2))
   ·exact Ã (Ã (h true _ sb1 S1))
  have l1:byTx w=true\/t1.led=true:=hl.imp id λz=>tm.2.trans z;split
  ·refine À ?_;rw[hashByValue_scannable 8 (rfl:(Ρ k tk).scannable=true)];refine Ã ?_;split
   ·exact tail t1 fm tm.1 l1
   ·exact tail { t1 with plain:=false } (SetTable.fits_plain_off fm) tm.1 l1
  ·refine À (Ã ?_);simp only[↓reduceIte];exact tail t1 fm tm.1 l1
end
noncomputable def cL(f:Nat->Int):Nat->List Int
 |0=>[]
 |i+1=>if f i∈cL f i then cL f i else cL f i++[f i]
theorem ycq(f:Nat->Int):∀i,(cL f i).length<=i
 |0=>Ò _
 |i+1=>by
  have ih:=ycq f i;unfold cL;split
  ·omega
  ·rw[Ó];show _+1<=_;omega
theorem SetL.at(x:SetL P w h a ks)(k:∀o,h.get? a=some o->h'.get? a=some o):SetL P w h' a ks:=by
 obtain ⟨o,es,ep,t,g,r⟩:=x;exact ⟨o,es,ep,t,k o g,r⟩
section
variable {P:Ü}{w:ï}{A:Ā}{R:Result->Ç->Prop}{I:Addr}{fp wr:List Addr}{G:Array GenState->Array GenState->Prop}{n:Nat}{Pv:Nat->Æ->Prop}{St:Nat->Ç->Prop}
theorem loopG(W:WalksS P w A.in1 I fp wr G n Pv St)(d:Addr)(hd:d∉fp)(S:Nat->Heap->Prop)(keep:∀i h h',S i h->(∀b o,(b=d\/∃items q,o.data=.seq items q)->h.get? b=some o->h'.get? b=some o)->S i h')(hwr:∀(s:Ç) (i:Nat) (b:Addr) (o:Obj),St i s->b∈wr->s.heap.get? b=some o->∀items q,o.data≠.seq items q)
  (add:∀(i:Nat) (v:Æ) (s:Ç) (Q:Bool->Ç->Prop) (E:Æ->Ç->Prop),Pv i v->i<n->S i s.heap->(∀r h' tk,s.toks<=tk->ü d s.heap h'->S (i+1) h'->Q r { s with heap:=h',toks:=tk })->Ë (model P w) A.in1 (setAdd d v) Q E s) :
  ∀(k i:Nat) (s:Ç),n-i=k->i<=n->St i s->S i s.heap->(∀s',Moved (d::wr) G s s'->S n s'.heap->R (.ok (.ret .none)) s')->ag (model P w) A (.builtin "set.update.loop" ⟨[.ref d,.ref I],[]⟩) R s:=by
 have hw:d∉wr:=λz=>hd (W.sub _ z);have up:∀b∈wr,b∈d::wr:=λb z=>Ê _ z;have kp:∀{i s s'},St i s->Moved wr G s s'->∀b o,(b=d\/∃items q,o.data=.seq items q)->s.heap.get? b=some o->s'.heap.get? b=some o:=λ{i s s'} st m b o hbo g=>m.heap b o (λz=>by
  rcases hbo with rfl|⟨items,q,e⟩
  ·exact hw z
  ·exact hwr s _ b o st z g _ _ e) g
 intro k;induction k with
 |zero=>
  intro i s hk hi st hS hR;have e:i=n:=by omega
  subst e;refine ĺ F.entry_set_update_loop ?_;rw[ĥ bv _];show Ë _ A.in1 (Ř (.ref I) >>= _) _ _ _;refine À (W.done s _ _ st λs' m=>?_);show Ë _ A.in1 (ret ó) _ _ _;exact Ã (hR s' (m.mono up) (keep _ _ _ hS (kp st m)))
 |succ k ih=>
  intro i s hk hi st hS hR;have hlt:i<n:=by omega
  refine ĺ F.entry_set_update_loop ?_;rw[ĥ bv _];show Ë _ A.in1 (Ř (.ref I) >>= _) _ _ _;refine À (W.item i s _ _ hlt st λv s' hP st' m=>?_);show Ë _ A.in1 (holding [v] (setAdd d v) >>= _) _ _ _;refine À (î (add i v s' _ _ hP hlt (keep _ _ _ hS (kp st m)) λr h' tk le sb S3=>?_));refine Ã ⟨Ζ bv _,?_⟩;refine ih (i+1) _ (by omega) hlt (W.frame _ s' _ _ st' le λb hb o g=>?_) S3 λs2 m2 S4=>?_
  ·rw[sb.2 b (λz:b=d=>hd (by rw[<-z];exact hb))];exact g
  ·refine hR s2 (Moved.trans W.gtrans ((m.mono up).then_heap le λb o hb g=>?_) m2) S4;rw[sb.2 b (λz:b=d=>hb (by rw[z];exact Ì))];exact g
end
section
variable {P:Ü}{w:ï}{A:Ā}{E:Æ->Ç->Prop}{s:Ç}
theorem newL(v:Æ){Q1:Æ->Ç->Prop}(h:Q1 (.ref s.heap.objs.size) { s with heap:=s.heap.push { cls:=.type "set",dict:=none,data:=.set #[] 0 (.fresh 0 0 (!byTx w)) } }) :
  ag (model P w) A (.call (.builtin "set.__new__") ⟨[.type "set",v],[]⟩) (wants Q1 E) s:=by
 refine codeAny_of_tree ?_;show Ë _ A.in1 (do checkBuiltinCall "set.__new__" ⟨[.type "set",v],[]⟩;again (.builtin "set.__new__" ⟨[.type "set",v],[]⟩)) _ _ s;refine À (Ť (F.newCall_set_1 v) (Ã ⟨Ζ F.plain_set_new _,?_⟩));refine ĺ F.entry_set_new ?_;rw[ĥ F.plain_set_new _];unfold Ĵ.«set.__new__» Builtin.Frozenset.newClass;have hsub:=sub_set_self;obtain ⟨hp,g,d,tk,os⟩:=s;dsimp only
 wp_walk
 refine μ ?_;refine Ã ?_;dsimp only;simp only[newObj];refine À (wpAny_alloc ?_);exact Ã (Ã h)
theorem SetL.new(g:h.get? a=some { cls:=.type "set",dict:=none,data:=.set #[] 0 (.fresh 0 0 (!byTx w)) }):SetL P w h a []:=by
 refine ⟨_,#[],0,_,g,⟨rfl,rfl,rfl⟩,rfl,λe he=>by simp at he,⟨[],.nil,ς _⟩,by decide,rfl,⟨λi j x y _ hx=>by simp[SetTable.fresh]at hx,rfl⟩,?_⟩;cases byTx w
 ·exact .inr rfl
 ·exact .inl rfl
set_option maxHeartbeats 6400000 in
theorem qe8(hh:A.handled=none)(hl:s.heap.IsList l its)(S:Nat->Heap->Prop)(new:∀h:Heap,h.get? s.heap.objs.size=some { cls:=.type "set",dict:=none,data:=.set #[] 0 (.fresh 0 0 (!byTx w)) }->(∀b o,s.heap.get? b=some o->h.get? b=some o)->S 0 h)
  (keep:∀i h h',S i h->(∀b o,(b=s.heap.objs.size\/∃items q,o.data=.seq items q)->h.get? b=some o->h'.get? b=some o)->S i h')
  (add:∀(B:Ā) (i:Nat) (v:Æ) (s':Ç) (Q:Bool->Ç->Prop) (E:Æ->Ç->Prop),B.units=A.units+1+1+1->its[i]?=some v->i<its.size->S i s'.heap->(∀r h' tk,s'.toks<=tk->ü s.heap.objs.size s'.heap h'->S (i+1) h'->Q r { s' with heap:=h',toks:=tk })->Ë (model P w) B (setAdd s.heap.objs.size v) Q E s')
  (k:∀(h':Heap) (tk:Nat),S its.size h'->(∀b o,b<s.heap.objs.size->s.heap.get? b=some o->h'.get? b=some o)->Q (.ref s.heap.objs.size) { s with heap:=h',toks:=tk }) :
  Ë (model P w) A (call (.type "set") [.ref l]) Q E s:=by
 obtain ⟨c0,tl0,c1⟩:=F.called_set.mro;have c2:=F.called_set.made;have c3:=F.called_set.sub;refine wpAny_call (codeAny_of_tree ?_);show Ë _ _ (callAny (.type "set") _) _ _ s;refine Ã ⟨?_,?_⟩
 ·exact Code.quiet_builtin _ (by decide +kernel)
 refine ĺ F.entry_type_call ?_;rw[Around.under_plain (weight_type_call_type "set" [.ref l] []) rfl];have c4:=F.called_set.notType;have c5:=F.called_set.canCreate;have c6:=F.typeCall_set_1 (.ref l)
 repeat (any_goals first|assumption|wp_step)
 refine codeAny_mono (newL (.ref l) (E:=E) (Q1:=λv s1=>v=.ref s.heap.objs.size/\s1={ s with heap:=s.heap.push { cls:=.type "set",dict:=none,data:=.set #[] 0 (.fresh 0 0 (!byTx w)) } }) ⟨rfl,rfl⟩) λr s1 hr=>?_;cases r with
 |error e=>exact hr
 |ok fl=>
  cases fl with
  |ret v=>
   obtain ⟨rfl,rfl⟩:=hr;have g1:(s.heap.push { cls:=.type "set",dict:=none,data:=.set #[] 0 (.fresh 0 0 (!byTx w)) }).get? s.heap.objs.size=some { cls:=.type "set",dict:=none,data:=.set #[] 0 (.fresh 0 0 (!byTx w)) }:=Ô _ rfl;have c7:ź { s with heap:=s.heap.push { cls:=.type "set",dict:=none,data:=.set #[] 0 (.fresh 0 0 (!byTx w)) } } (.ref s.heap.objs.size) "set":=⟨_,g1,rfl⟩;have c8:=F.called_set.init.lookup;have c9:=F.called_set.init.bind (.ref s.heap.objs.size)
   repeat (any_goals first|assumption|wp_step)
   refine codeAny_mono (codeAny_call_builtin (R:=wants (λr s2=>r=.none/\∃h' tk,s2={ s with heap:=h',toks:=tk }/\S its.size h'/\
     (∀b o,b<s.heap.objs.size->s.heap.get? b=some o->h'.get? b=some o)) E) F.called_set.init.plain F.entry_set_init (check_set_init_1 c7 ?_)) λr2 s2 hr2=>?_
   ·obtain ⟨ol,gl,cl,nl,dl⟩:=hl;obtain ⟨qc,qd,qa,qs⟩:=ol;simp only at cl dl;subst cl;subst dl;have gl':(s.heap.push { cls:=.type "set",dict:=none,data:=.set #[] 0 (.fresh 0 0 (!byTx w)) }).get? l=some { cls:=.type "list",dict:=qd,data:=.seq its nl,slots:=qs }:=È _ gl;have d1:=F.sub_list_set;have d2:=F.sub_list_frozenset;have d3:(Ο "list" == Ο "dict")=false:=by decide
    have hl1:(s.heap.push { cls:=.type "set",dict:=none,data:=.set #[] 0 (.fresh 0 0 (!byTx w)) }).IsList l its:=⟨_,gl',rfl,nl,rfl⟩;unfold Ĵ.«set.__init__» noKeywords Builtin.Frozenset.updateFrom;generalize hPI:pyIter=PI
    wp_walk
    subst hPI;refine Χ hl1 ?_;refine À (wpAny_runValue ?_);have lt:l<s.heap.objs.size:=é gl;have h3:A.in1.in1.in1.handled=none:=by simp[hh]
    have nI:l≠(s.heap.push { cls:=.type "set",dict:=none,data:=.set #[] 0 (.fresh 0 0 (!byTx w)) }).objs.size:=by
     rw[Ŀ];exact ĉ (ű lt)
    have nf:s.heap.objs.size∉[(s.heap.push { cls:=.type "set",dict:=none,data:=.set #[] 0 (.fresh 0 0 (!byTx w)) }).objs.size,l]:=by
     rw[Ŀ];simp only[ñ,ê,Ņ,or_false,not_or];exact ⟨ĉ (Nat.lt_succ_self _),ai lt⟩
    refine loopG ((Walks.list h3 _ l nI its).toS) s.heap.objs.size nf S keep ?HW (λi v s' Q E hv hlt=>add _ i v s' Q E rfl hv hlt) (its.size-0) 0 _ (by omega) (ķ _) ⟨⟨_,Ô _ rfl,rfl,rfl⟩,(hl1.push _)⟩ ?S0 ?R0
    case HW=>
     rintro s1 i b o ⟨⟨o',g',c',d'⟩,_⟩ hb g items m e;cases ê.mp hb;rw[g']at g;cases g;rw[d']at e;cases e
    case S0=>exact new _ (È _ g1) λb o g=>È _ (È _ g)
    case R0=>
     intro s' m S';obtain ⟨h',g',d',tk',os'⟩:=s';have eg:g'=s.gens:=m.gens;have ed:d'=s.drawn:=m.drawn;have eo:os'=s.os:=m.os;subst eg;subst ed;subst eo;show Ë _ _ _ _ _ _;refine Ã ?_;show Ë _ _ (ret ó) _ _ _;refine Ã ⟨rfl,h',tk',rfl,S',λb o lb g=>?_⟩;have b1:b≠s.heap.objs.size:=ĉ lb;have b2:b≠(s.heap.push { cls:=.type "set",dict:=none,data:=.set #[] 0 (.fresh 0 0 (!byTx w)) }).objs.size:=by
      rw[Ŀ];exact ĉ (ű lb)
     exact m.heap b o (by simp only[ñ,ê,Ņ,or_false,not_or];exact ⟨b1,b2⟩) (È _ (È _ g))
   ·cases r2 with
    |error e=>exact hr2
    |ok fl2=>
     cases fl2 with
     |ret r=>
      obtain ⟨rfl,h',tk,rfl,S',kp⟩:=hr2
      repeat (any_goals first|assumption|wp_step)
      exact k _ _ S' kp
     |_=>exact hr2.elim
  |_=>exact hr.elim
theorem yje(hh:A.handled=none)(hl:s.heap.IsList l its)(hi:Ļ its.toList ns)(hb:its.size+1<aD)
  (k:∀(h':Heap) (tk:Nat),SetL P w h' s.heap.objs.size (cL (λi=>ns.getD i 0) its.size)->(∀b o,b<s.heap.objs.size->s.heap.get? b=some o->h'.get? b=some o)->Q (.ref s.heap.objs.size) { s with heap:=h',toks:=tk }) :
  Ë (model P w) A (call (.type "set") [.ref l]) Q E s:=
 qe8 hh hl (λi h=>SetL P w h s.heap.objs.size (cL (λi=>ns.getD i 0) i)) (λh g _=>SetL.new g) (λi h h' x kp=>x.at λo g=>kp _ o (.inl rfl) g) (λB i v s' Q E _ hv hlt hS kk=>by
  obtain ⟨t,rfl⟩:=PyProof.Rows.IntsAre.int_at hi i v (by rw[ğ];exact hv);unfold setAdd;refine î (À ((Ù P w).pyHash (k:=ns.getD i 0) (intKind_is _ _ _ _) ?_));exact addL (s:={ s' with toks:=s'.toks+1 }) hS (by have:=ycq (λi=>ns.getD i 0) i;omega) λb h' sb S2=>kk b h' _ (le_succ _) sb S2) k
end
theorem eX:Slot "set_iterator" "__next__" "set_iterator.__next__":=
 .of (owner:="set_iterator") (n:="__next__") (by rw[typeLookup_type,aq];kernel_rfl) (by decide +kernel) (by decide +kernel) (by decide +kernel) (by first|exact .inl (by decide +kernel)|exact .inr (by decide +kernel)) (by rw[isSubtype_type];kernel_rfl)
theorem yat:entryFor table "set_iterator.__next__"=some Ĵ.«set_iterator.__next__»:=entryFor_of_tree (by kernel_rfl)
theorem qax(v:Æ):argsOk "set_iterator.__next__" ⟨[v],[]⟩:=by unfold argsOk;kernel_rfl
theorem qc6:entryFor table "set.__iter__"=some Ĵ.«frozenset.__iter__»:=
 entryFor_alias (id':="frozenset.__iter__") (by kernel_rfl) (by first|rfl|decide +kernel|(unfold String.splitOn;simp +decide [String.splitOnAux])) (by decide +kernel) (by kernel_rfl)
theorem qeq(hn:n≠0)(h:∀i d,i<n->Q i { s with drawn:=d }):Ë M A (choose .order n) Q E s:=
 λΓ p hΓ=>⟨hn,h _ _ (mod_lt _ (Nat.pos_of_ne_zero hn))⟩
theorem qcp:∀(xs:List α) (i:Nat) (x:α),xs[i]?=some x->(x::xs.eraseIdx i).Perm xs
 |[],i,x,h=>by simp at h
 |a::xs,0,x,h=>by
  have e:a=x:=by simpa using h
  subst e;exact ς _
 |a::xs,i+1,x,h=>by
  have ih:=qcp xs i x (by simpa using h);show (x::a::xs.eraseIdx i).Perm (a::xs);exact (List.Perm.swap a x _).trans (ih.cons a)
theorem qcw:∀(n:Nat) (xs:List α) (s:Ç) (Q:List α->Ç->Prop),xs.length=n->(∀ys d,ys.Perm xs->Q ys { s with drawn:=d })->Ë M A (drawOrder n xs) Q E s
 |0,xs,s,Q,hl,h=>by
  unfold drawOrder;have e:xs=[]:=List.length_eq_zero_iff.mp hl;subst e;exact Ã (h [] s.drawn (ς _))
 |n+1,[],s,Q,hl,h=>by simp at hl
 |n+1,x::xs,s,Q,hl,h=>by
  unfold drawOrder;refine À (qeq (by simp) λi d hi=>?_);have hg:(x::xs)[i]?=some (x::xs)[i]:=Í hi;rw[hg];dsimp only;refine À (qcw n _ _ _ (by rw[List.length_eraseIdx];simp only[if_pos hi];omega) λys d' hp=>?_);exact Ã (h _ d' ((hp.cons _).trans (qcp _ i _ hg)))
theorem ykj(f:Nat->Nat):∀(n k:Nat) (xs:List α) (out:Array α),xs.length=n->∃ys:List α,ys.Perm xs/\(pickOrder.go f n k xs out).toList=out.toList++ys
 |0,k,xs,out,hl=>⟨[],by rw[List.length_eq_zero_iff.mp hl],by unfold pickOrder.go;simp⟩
 |n+1,k,xs,out,hl=>by
  have hlt:f k % xs.length<xs.length:=mod_lt _ (by omega);have hg:xs[f k % xs.length]?=some xs[f k % xs.length]:=Í hlt;unfold pickOrder.go;rw[hg];dsimp only;obtain ⟨ys,hp,e⟩:=ykj f n (k+1) (xs.eraseIdx (f k % xs.length)) (out.push xs[f k % xs.length]) (by rw[List.length_eraseIdx,if_pos hlt];omega);refine ⟨xs[f k % xs.length]::ys,(hp.cons _).trans (qcp _ _ _ hg),?_⟩;rw[e];simp
theorem ydu(f:Nat->Nat)(xs:Array α):(pickOrder f xs).toList.Perm xs.toList:=by
 obtain ⟨ys,hp,e⟩:=ykj f xs.size 0 xs.toList #[] (by simp);unfold pickOrder;rw[e]
 simpa using hp
section
variable {P:Ü}{w:ï}{A:Ā}{E:Æ->Ç->Prop}{s:Ç}{a:Addr}{o:Obj}{es:Array (Int×Æ)}{ep:Nat}{t:ė}
theorem yji(hb:byTx w=true)(g:s.heap.get? a=some o)(gd:o.data=.set es ep t)(hf:t.fits es.size=true)
  (h:Q (((pickOrder (w.params.setOrder a ep) es).toList.map (·.2))[i]?.map λv=>(v,slot)) s):Ë (model P w) A (setNext a slot i ep) Q E s:=by
 unfold setNext;refine À (Ĭ g gd hf ?_);dsimp only;unfold setsByText;refine À (À (μ (Ã ?_)));have hb':w.params.followText "set-order"=true:=hb;show Ë _ _ (if w.params.followText "set-order"=true then _ else _) _ _ _;rw[if_pos hb',if_neg (by simp)];unfold setWalk;refine À (À (Ĭ g gd hf ?_));dsimp only;unfold setsByText;refine À (À (μ (Ã ?_)));show Ë _ _ (if w.params.followText "set-order"=true then _ else _) _ _ _;rw[if_pos hb'];refine À (μ (Ã ?_));refine Ã ?_;rw[Ĉ,ğ,Option.map_map]at h;exact h
theorem next_led(hb:byTx w=false)(g:s.heap.get? a=some o)(gd:o.data=.set es ep t)(hf:t.fits es.size=true)(hl:t.led=true)(hp:t.plain=true\/es.size<=1)
  (h:Q (match es[Ö t.place slot]?,t.place[Ö t.place slot]? with|some (_,x),some j=>some (x,j+1)|_,_=>none) s):Ë (model P w) A (setNext a slot i ep) Q E s:=by
 unfold setNext;refine À (Ĭ g gd hf ?_);dsimp only;unfold setsByText;refine À (À (μ (Ã ?_)));have hb':w.params.followText "set-order"=false:=hb;show Ë _ _ (if w.params.followText "set-order"=true then _ else _) _ _ _;rw[if_neg (by rw[hb'];exact ú)];refine wpAny_ite_split (λhd=>?_) λ_=>?_
 ·exfalso;have hd':(!t.plain&&decide (es.size>1))=true:=hd;rw[Å,decide_eq_true_eq]at hd';rcases hp with hp|hp
  ·rw[hp]at hd';exact absurd hd'.1 (by decide)
  ·omega
 ·refine À ?_;refine wpAny_ite_split (λhd=>?_) λ_=>?_
  ·exfalso;have hd':(!t.led && !es.isEmpty)=true:=hd;rw[hl]at hd';exact absurd hd' (by simp)
  ·exact Ã (Ã h)
end
theorem ybo:Slot "set_iterator" "__iter__" "set_iterator.__iter__":=
 .of (owner:="set_iterator") (n:="__iter__") (by rw[typeLookup_type,aq];kernel_rfl) (by decide +kernel) (by decide +kernel) (by decide +kernel) (by first|exact .inl (by decide +kernel)|exact .inr (by decide +kernel)) (by rw[isSubtype_type];kernel_rfl)
theorem yc1:entryFor table "set_iterator.__iter__"=some Ĵ.«dict_keyiterator.__iter__»:=
 entryFor_alias (id':="dict_keyiterator.__iter__") (by kernel_rfl) (by first|rfl|decide +kernel|(unfold String.splitOn;simp +decide [String.splitOnAux])) (by decide +kernel) (by kernel_rfl)
theorem qdm(v:Æ):argsOk "set_iterator.__iter__" ⟨[v],[]⟩:=by unfold argsOk;kernel_rfl
noncomputable def SI(h:Heap)(I:Addr)(f:Æ)(i:Nat)(a:Addr)(n ep:Nat):Prop:=h.get? I=some { cls:=.type "set_iterator",dict:=none,data:=.fields #[f,đ i,.ref a,đ n,đ ep],slots:=#[] }
section
variable {P:Ü}{w:ï}{A:Ā}{E:Æ->Ç->Prop}{s:Ç}
theorem yfr(hT:s.TypeIs (.ref I) "set_iterator")(h:Q (.ref I) s):Ë (model P w) A (pyIter (.ref I)) Q E s:=by
 refine wpAny_pyIter_slot hT ybo (å ybo hT yc1 ?_ (qdm _));show Ë _ _ (ret (.ref I)) _ _ s;exact Ã ⟨_,rfl,"set_iterator",_,hT,eX.lookup,h⟩
theorem ydx(hh:A.handled=none)(h:∀h' e,(∀b o,s.heap.get? b=some o->h'.get? b=some o)->(∃o,h'.get? e=some o/\o.cls=.type "StopIteration")->E (.ref e) { s with heap:=h' }) :
  Ë (model P w) A (newExc (.type "StopIteration") [] >>= λe=>(raiseNew e:Sem Fin)) Q E s:=by
 refine À ?_;simp only[newExc,newTuple];refine À (Ą ?_ (by size_fits));refine À (m:=af _ _) ?_;refine Ť (a:=ó) (by first|rfl|(simp only[af];rfl)) ?_;refine Ą ?_ (by size_fits);simp only[raiseNew];refine À (wpAny_handled ?_);rw[hh];refine À (Ã (wpAny_throw ?_));exact h _ _ (λb o g=>È _ (È _ g)) ⟨_,Ô _ rfl,rfl⟩
theorem yc2(k:∀b o,b≠I->s.heap.get? b=some o->h'.get? b=some o):Moved [I] (λx y=>y=x) s { s with heap:=h' }:=
 ⟨λb o hb g=>k b o (λz=>hb (by rw[z];exact mem_singleton.mpr rfl)) g,rfl,rfl,rfl,Ò _⟩
theorem yip(hh:A.handled=none){I a:Addr}{o:Obj}{es:Array (Int×Æ)}{ep:Nat}{t:ė}(nI:a≠I)(gd:o.data=.set es ep t)(hf:t.fits es.size=true)(F:Nat->Nat)(vs:List Æ)(hvs:vs.length=es.size)
  (hn:∀(B:Ā) (D:Æ->Ç->Prop) (s:Ç) (i:Nat) (Q:Option (Æ×Nat)->Ç->Prop),s.heap.get? a=some o->i<=es.size->Q (vs[i]?.map λv=>(v,F (i+1))) s->Ë (model P w) B (setNext a (F i) i ep) Q D s) :
  WalksS P w A I [I,a] [I] (λx y=>y=x) es.size (λi v=>vs[i]?=some v) (λi s=>SI s.heap I (đ (F i)) i a es.size ep/\s.heap.get? a=some o) where
 sub:=λb hb=>by rw[ê]at hb;rw[hb];exact Ì ..
 grefl:=λ_=>rfl
 gtrans:=λ_ _ _ h1 h2=>h2.trans h1
 frame:=λi s h' tk st _ k=>⟨k I (by simp) _ st.1,k a (by simp) _ st.2⟩
 item:=λi s Q E hi st hQ=>by
  obtain ⟨gI,ga⟩:=st;have hT:s.TypeIs (.ref I) "set_iterator":=⟨_,gI,rfl⟩;have hv:vs[i]?=some vs[i]:=Í (by omega);unfold Ř;refine À (ĩ (è (name:=Ċ "__next__") hT eX (å eX hT yat ?_ (qax _))));show Ë _ _ (fieldsOf (.ref I) >>= _) _ _ s;refine À (Ω gI rfl ?_);show Ë _ _ (setEntries a >>= _) _ _ s;refine À (ω ga gd hf ?_);rw[if_neg (by simp)];show Ë _ _ (setNext a (F i) i ep >>= _) _ _ s;refine À (hn _ _ s i _ ga (by omega) ?_);rw[hv];show Ë _ _ (setField (.ref I) 0 (đ (F (i+1))) >>= _) _ _ s;refine À (ð gI (by simp) λm1 g1 e1=>?_);refine À (ð g1 (by simp) λm2 g2 e2=>?_);refine Ã ⟨_,rfl,Ã (hQ _ _ hv ⟨?_,?_⟩ (yc2 λb ob hb g=>(e2.extBut _ _ hb (e1.extBut _ _ hb g))))⟩
  ·exact g2
  ·exact e2.extBut _ _ nI (e1.extBut _ _ nI ga)
 done:=λs Q E st hQ=>by
  obtain ⟨gI,ga⟩:=st;have hT:s.TypeIs (.ref I) "set_iterator":=⟨_,gI,rfl⟩;have hv:vs[es.size]?=none:=ŝ (by omega);unfold Ř;refine À (ĩ (è (name:=Ċ "__next__") hT eX (å eX hT yat ?_ (qax _))));show Ë _ _ (fieldsOf (.ref I) >>= _) _ _ s;refine À (Ω gI rfl ?_);show Ë _ _ (setEntries a >>= _) _ _ s;refine À (ω ga gd hf ?_);rw[if_neg (by simp)];show Ë _ _ (setNext a (F es.size) es.size ep >>= _) _ _ s;refine À (hn _ _ s es.size _ ga (Ò _) ?_);rw[hv];show Ë _ _ (setField (.ref I) 2 ó >>= _) _ _ s;refine À (ð gI (by simp) λm1 g1 e1=>?_);refine ydx (by first|exact hh|simpa using hh) λm2 e kp he=>?_;obtain ⟨ob,go,gc⟩:=he;refine À (Ĳ (T:="StopIteration") (b:=true) ⟨ob,go,gc⟩ ae ?_);exact Ã (hQ _ (yc2 λb ob hb g=>kp b ob (e1.extBut _ _ hb g)))
 self:=λi s Q E st hQ=>by
  obtain ⟨gI,ga⟩:=st;exact yfr ⟨_,gI,rfl⟩ hQ
theorem qke(hh:A.handled=none){I a T:Addr}{o:Obj}{es:Array (Int×Æ)}{ep:Nat}{t:ė}(nI:a≠I)(nT:T≠I)(gd:o.data=.set es ep t)(hf:t.fits es.size=true)(ps:List Nat)(hps:ps.length=es.size)(hlt:∀p∈ps,p<es.size)(vs:List Æ)(hvs:vs=ps.map λp=>(es.getD p (0,.none)).2) :
  WalksS P w A I [I,a,T] [I] (λx y=>y=x) es.size (λi v=>vs[i]?=some v) (λi s=>SI s.heap I (.ref T) i a es.size ep/\s.heap.get? a=some o/\s.heap.get? T=some { cls:=.type "tuple",data:=.seq (ps.map λ(p:Nat)=>đ p).toArray }) where
 sub:=λb hb=>by rw[ê]at hb;rw[hb];exact Ì ..
 grefl:=λ_=>rfl
 gtrans:=λ_ _ _ h1 h2=>h2.trans h1
 frame:=λi s h' tk st _ k=>⟨k I (by simp) _ st.1,k a (by simp) _ st.2.1,k T (by simp) _ st.2.2⟩
 item:=λi s Q E hi st hQ=>by
  obtain ⟨gI,ga,gT⟩:=st;have hT:s.TypeIs (.ref I) "set_iterator":=⟨_,gI,rfl⟩;have hp:ps[i]?=some ps[i]:=Í (by omega);have hpl:ps[i]<es.size:=hlt _ (ε _);have he:es[ps[i]]?=some es[ps[i]]:=ç hpl;have hv:vs[i]?=some (es[ps[i]]).2:=by
   rw[hvs,Ĉ,hp,Option.map_some,ŕ,he];rfl
  have hpi:(ps.map λ(p:Nat)=>đ p).toArray[i]?=some (đ ps[i]):=by
   rw[Υ,Ĉ,hp];rfl
  unfold Ř;refine À (ĩ (è (name:=Ċ "__next__") hT eX (å eX hT yat ?_ (qax _))));show Ë _ _ (fieldsOf (.ref I) >>= _) _ _ s;refine À (Ω gI rfl ?_);show Ë _ _ (setEntries a >>= _) _ _ s;refine À (ω ga gd hf ?_);rw[if_neg (by simp)];show Ë _ _ (seqItems? (.ref T) >>= _) _ _ s;refine À (ē gT rfl ?_);dsimp only;rw[show ((i:Int)).toNat=i from rfl,hpi];show Ë _ _ (setNextDrawn a ps[i] ep >>= _) _ _ s;unfold setNextDrawn;refine À (À (Ĭ ga gd hf ?_));dsimp only;rw[if_neg (by simp),he];refine Ã ?_;show Ë _ _ (setField (.ref I) 1 (đ (i+1)) >>= _) _ _ s;refine À (ð gI (by simp) λm1 g1 e1=>?_);refine Ã ⟨_,rfl,Ã (hQ _ _ hv ⟨?_,?_,?_⟩ (yc2 λb ob hb g=>e1.extBut _ _ hb g))⟩
  ·exact g1
  ·exact e1.extBut _ _ nI ga
  ·exact e1.extBut _ _ nT gT
 done:=λs Q E st hQ=>by
  obtain ⟨gI,ga,gT⟩:=st;have hT:s.TypeIs (.ref I) "set_iterator":=⟨_,gI,rfl⟩;have hpi:(ps.map λ(p:Nat)=>đ p).toArray[es.size]?=none:=by
   rw[Υ];exact ŝ (by rw[Ð];omega)
  unfold Ř;refine À (ĩ (è (name:=Ċ "__next__") hT eX (å eX hT yat ?_ (qax _))));show Ë _ _ (fieldsOf (.ref I) >>= _) _ _ s;refine À (Ω gI rfl ?_);show Ë _ _ (setEntries a >>= _) _ _ s;refine À (ω ga gd hf ?_);rw[if_neg (by simp)];show Ë _ _ (seqItems? (.ref T) >>= _) _ _ s;refine À (ē gT rfl ?_);dsimp only;rw[show ((es.size:Int)).toNat=es.size from rfl,hpi];show Ë _ _ (setField (.ref I) 0 (đ 0) >>= _) _ _ s;refine À (ð gI (by simp) λm0 g0 e0=>?_);refine À (ð g0 (by simp) λm1 g1 e1=>?_);refine ydx (by first|exact hh|simpa using hh) λm2 e kp he=>?_;obtain ⟨ob,go,gc⟩:=he;refine À (Ĳ (T:="StopIteration") (b:=true) ⟨ob,go,gc⟩ ae ?_);exact Ã (hQ _ (yc2 λb ob hb g=>kp b ob (e1.extBut _ _ hb (e0.extBut _ _ hb g))))
 self:=λi s Q E st hQ=>by
  obtain ⟨gI,ga,gT⟩:=st;exact yfr ⟨_,gI,rfl⟩ hQ
end
theorem yjv{t:ė}{n:Nat}(h:t.fits n=true):t.place.size=n:=by
 unfold SetTable.fits at h;rw[Å,beq_iff_eq]at h;exact h.1
noncomputable def qgu(t:ė)(i:Nat):Nat:=if i=0 then 0 else t.place.getD (i-1) 0+1
theorem yfi(hs:Srt t.place){i:Nat}(hi:i<=t.place.size):Ö t.place (qgu t i)=i:=by
 by_cases h0:i=0
 ·subst h0;exact qed hs (ķ _) (λk x hk=>absurd hk (not_lt_zero _)) λk x _ _=>ķ _
 ·have hlt:i-1<t.place.size:=by omega
  have hg:t.place[i-1]?=some (t.place.getD (i-1) 0):=by
   rw[ŕ,ç hlt];rfl
  have e:qgu t i=t.place.getD (i-1) 0+1:=by unfold qgu;rw[if_neg h0]
  rw[e];refine qed hs hi (λk x hk hx=>?_) λk x hk hx=>?_
  ·by_cases hk2:k=i-1
   ·subst hk2;rw[hg]at hx;cases hx;omega
   ·have:=hs k (i-1) x _ (by omega) hx hg;omega
  ·have:=hs (i-1) k _ x (by omega) hg hx;omega
noncomputable def SetV(P:Ü)(w:ï)(h:Heap)(a:Addr)(us:List Æ):Prop:=
 ∃o es ep t,h.get? a=some o/\o.ExactSet/\o.data=.set es ep t/\(es.toList.map (·.2)).Perm us/\es.size<aD/\t.fits es.size=true/\TOk t/\(byTx w=true\/t.led=true)
section
variable {P:Ü}{w:ï}{A:Ā}{E:Æ->Ç->Prop}{s:Ç}{a:Addr}{ks:List Int}
noncomputable def WalkV(P:Ü)(w:ï)(s:Ç)(a:Addr)(us:List Æ)(I:Addr)(h':Heap)(d:Drawn):Prop:=
 ∃(n:Nat) (fp:List Addr) (vs:List Æ) (St:Nat->Ç->Prop),n=us.length/\(∀B:Ā,B.handled=none->WalksS P w B I fp [I] (λx y=>y=x) n (λi v=>vs[i]?=some v) St)/\St 0 { s with heap:=h',drawn:=d }/\
  s.heap.objs.size<=I/\(∀b∈fp,b=a\/s.heap.objs.size<=b)/\(∀b o,s.heap.get? b=some o->h'.get? b=some o)/\vs.Perm us
theorem iterV(hS:SetV P w s.heap a us)(k:∀I h' d,WalkV P w s a us I h' d->Q (.ref I) { s with heap:=h',drawn:=d }):Ë (model P w) A (pyIter (.ref a)) Q E s:=by
 obtain ⟨o,es,ep,t,g,gx,gd,hp,hb,hf,ht,hl⟩:=hS;have hT:s.TypeIs (.ref a) "set":=⟨o,g,gx.1⟩;have hlen:es.size=us.length:=by
  have h1:=hp.length_eq
  rwa [Ð,ä]at h1
 have hpl:t.place.size=es.size:=yjv hf;have ha:a<s.heap.objs.size:=é g;refine wpAny_pyIter_slot hT F.slot_set_iter (å F.slot_set_iter hT qc6 ?_ (F.args_set_iter_1 _));show Ë _ _ (Builtin.Frozenset.sizeOf a >>= _) _ _ s;refine À ?_;unfold Builtin.Frozenset.sizeOf;refine À (ω g gd hf ?_);refine Ã ?_;refine À ?_;refine À ?_;refine Ĭ g gd hf ?_;dsimp only;unfold setsByText;refine À (À (μ (Ã ?_)));refine Ã ?_;dsimp only;refine wpAny_ite_split (λhd=>?_) λhd=>?_
 ·refine À (qcw es.size (õ es.size) s _ (by simp) λps d pp=>?_);have hpsl:ps.length=es.size:=by rw[pp.length_eq,π]
  refine À (Ψ ?_ (by rw[Ð,hpsl];exact fits_of_scanBound hb));have gT:(s.heap.push { cls:=.type "tuple",data:=.seq (ps.map λ(p:Nat)=>đ p).toArray }).get? s.heap.objs.size=some { cls:=.type "tuple",data:=.seq (ps.map λ(p:Nat)=>đ p).toArray }:=Ô _ rfl;have ga:(s.heap.push { cls:=.type "tuple",data:=.seq (ps.map λ(p:Nat)=>đ p).toArray }).get? a=some o:=È _ g;refine À (wpAny_setEpoch_of (s:={ s with heap:=s.heap.push { cls:=.type "tuple",data:=.seq (ps.map λ(p:Nat)=>đ p).toArray },drawn:=d }) ga gd hf ?_);refine À (Ą ?_ (by size_fits));have z1:(s.heap.push { cls:=.type "tuple",data:=.seq (ps.map λ(p:Nat)=>đ p).toArray }).objs.size=s.heap.objs.size+1:=Ŀ ..;have hvp:(ps.map λp=>(es.getD p (0,.none)).2).Perm (es.toList.map (·.2)):=by
   refine (pp.map _).trans (List.Perm.of_eq ?_);refine List.ext_getElem (by simp) λi h1 h2=>?_;have hi:i<es.size:=by simpa using h2
   rw[List.getElem_map,List.getElem_map,List.getElem_range,Array.getElem_toList];show (es.getD i (0,.none)).2=(es[i]).2;rw[ŕ,ç hi];rfl
  have nI:a≠(s.heap.push { cls:=.type "tuple",data:=.seq (ps.map λ(p:Nat)=>đ p).toArray }).objs.size:=by rw[z1];exact ş (.inl (ű ha))
  have nT:s.heap.objs.size≠(s.heap.push { cls:=.type "tuple",data:=.seq (ps.map λ(p:Nat)=>đ p).toArray }).objs.size:=by rw[z1];exact ş (.inl (Nat.lt_succ_self _))
  refine Ã ⟨_,rfl,"set_iterator",_,⟨_,Ô _ rfl,rfl⟩,eX.lookup,k _ _ d ?_⟩;refine ⟨es.size,_,_,_,hlen,λB hB=>qke hB nI nT gd hf ps hpsl (λp hp=>mem_range.mp (pp.mem_iff.mp hp)) _ rfl,⟨Ô _ rfl,È _ ga,È _ gT⟩,by rw[z1];exact le_succ _,λb hb=>?_,λb ob gb=>È _ (È _ gb),hvp.trans hp⟩;have hb':b=(s.heap.push { cls:=.type "tuple",data:=.seq (ps.map λ(p:Nat)=>đ p).toArray }).objs.size\/b=a\/b=s.heap.objs.size:=by simpa using hb
  rcases hb' with rfl|rfl|rfl
  ·exact .inr (by rw[z1];exact le_succ _)
  ·exact .inl rfl
  ·exact .inr (Ò _)
 ·refine À (Ã ?_);refine À (wpAny_setEpoch_of g gd hf ?_);refine À (Ą ?_ (by size_fits));have nI:a≠s.heap.objs.size:=ş (.inl ha);have es0:s={ s with drawn:=s.drawn }:=by cases s;rfl
  have fpk:∀b∈[s.heap.objs.size,a],b=a\/s.heap.objs.size<=b:=λb hb=>by
   have hb':b=s.heap.objs.size\/b=a:=by simpa using hb
   rcases hb' with rfl|rfl
   ·exact .inr (Ò _)
   ·exact .inl rfl
  refine Ã ⟨_,rfl,"set_iterator",_,⟨_,Ô _ rfl,rfl⟩,eX.lookup,?_⟩;have key:WalkV P w s a us s.heap.objs.size (s.heap.push { cls:=.type "set_iterator",data:=.fields #[đ 0,đ 0,.ref a,đ es.size,đ ep] }) s.drawn:=by
   by_cases hbt:byTx w=true
   ·have hvp:((pickOrder (w.params.setOrder a ep) es).toList.map (·.2)).Perm (es.toList.map (·.2)):=(ydu _ es).map _;refine ⟨es.size,_,(pickOrder (w.params.setOrder a ep) es).toList.map (·.2),_,hlen,λB hB=>yip hB nI gd hf (λ_=>0) _ (by rw[hvp.length_eq,Ð,ä]) λC D s i Q g1 hi1 q=>yji hbt g1 gd hf q,⟨Ô _ rfl,È _ g⟩,Ò _,fpk,λb ob gb=>È _ gb,hvp.trans hp⟩
   ·have hbf:byTx w=false:=eq_false_of_ne_true hbt;have hled:t.led=true:=hl.resolve_left hbt;have hpz:t.plain=true\/es.size<=1:=by
     have hd':¬ ((!byTx w&&(!t.plain&&decide (es.size>1)))=true):=hd;rw[hbf]at hd';cases hq:t.plain with
     |true=>exact .inl rfl
     |false=>
      right
      rw[hq]at hd'
      simpa using hd'
    refine ⟨es.size,_,es.toList.map (·.2),_,hlen,λB hB=>yip hB nI gd hf (qgu t) _ (by rw[Ð,ä]) λC D s i Q g1 hi1 q=>next_led hbf g1 gd hf hled hpz ?_,⟨Ô _ rfl,È _ g⟩,Ò _,fpk,λb ob gb=>È _ gb,hp⟩;rw[yfi ht.1 (by omega)];by_cases hlt:i<es.size
    ·have e1:es[i]?=some es[i]:=ç hlt;have e2:t.place[i]?=some (t.place.getD i 0):=by
      rw[ŕ,ç (by omega)];rfl
     rw[Ĉ,ğ,e1]at q;rw[e1,e2];exact q
    ·have e1:es[i]?=none:=Array.getElem?_eq_none (by omega);rw[Ĉ,ğ,e1]at q;rw[e1];exact q
  have z:=k _ _ _ key;exact z
end
theorem len_set:typeLookup (.type "set") "__len__"=pure (some (.builtin "set.__len__")):=by rw[typeLookup_type,aq];kernel_rfl
theorem SetV.at(x:SetV P w h a us)(k:∀o,h.get? a=some o->h'.get? a=some o):SetV P w h' a us:=by
 obtain ⟨o,es,ep,t,g,r⟩:=x;exact ⟨o,es,ep,t,k o g,r⟩
section
variable {P:Ü}{w:ï}{A:Ā}{E:Æ->Ç->Prop}{s:Ç}{a:Addr}
theorem qg8(hh:A.handled=none){us:List Æ}(hS:SetV P w s.heap a us)(hz:us.length<=4000)
  (k:∀vs h' d tk,vs.Perm us->s.heap.objs.size<h'.objs.size->(∀b o,s.heap.get? b=some o->h'.get? b=some o)->Q vs { s with heap:=h',drawn:=d,toks:=tk }):Ë (model P w) A (collect (.ref a)) Q E s:=by
 have hT:s.TypeIs (.ref a) "set":=by
  obtain ⟨o,es,ep,t,g,gx,_⟩:=hS;exact ⟨o,g,gx.1⟩
 have ha:a<s.heap.objs.size:=by
  obtain ⟨o,es,ep,t,g,gx,_⟩:=hS;exact é g
 unfold collect;refine À (wpAny_runValue (ĺ F.entry_proto_collect ?_));rw[ĥ F.plain_proto_collect _];show Ë _ A.in1 (newList [] >>= λl=>again (.builtin "list.__iadd__" ⟨[l,.ref a],[]⟩)) _ _ s;refine À (Ą ?_);refine Ã ⟨Ζ F.plain_list_iadd _,?_⟩;refine ĺ F.entry_list_iadd ?_;rw[ĥ F.plain_list_iadd _];show Ë _ A.in1 (Ν (.ref s.heap.objs.size) (.ref a) (.ref s.heap.objs.size)) _ _ _;generalize hH:s.heap.push { cls:=.type "list",data:=.seq ([]:List Æ).toArray }=H1;have g0:H1.get? s.heap.objs.size=some { cls:=.type "list",data:=.seq ([]:List Æ).toArray }:=by rw[<-hH];exact Ô _ rfl
 have z1:H1.objs.size=s.heap.objs.size+1:=by rw[<-hH];exact Ŀ ..
 have kp1:∀b o,s.heap.get? b=some o->H1.get? b=some o:=λb o g=>by rw[<-hH];exact È _ g
 have hS1:SetV P w H1 a us:=hS.at λo g=>kp1 a o g;have hT1:ź { s with heap:=H1 } (.ref a) "set":=by
  obtain ⟨o,es,ep,t,g,gx,_⟩:=hS1;exact ⟨o,g,gx.1⟩
 unfold Ν;refine À (θ hT1 ?_);have n1:Builtin.List.listSameRef (.ref s.heap.objs.size) (.ref a)=false:=by
  have:s.heap.objs.size≠a:=ş (.inr ha);simp[Builtin.List.listSameRef,this]
 rw[if_neg (by rw[n1];decide)];refine À (iterV (s:={ s with heap:=H1 }) hS1 λI h' d W=>?_);refine À (î ?_);have hT2:ź { s with heap:=h',drawn:=d } (.ref a) "set":=by
  obtain ⟨n,fp,vs,St,e,W1,st,lI,fpk,kp,p2⟩:=W;obtain ⟨o,g,c⟩:=hT1;exact ⟨o,kp _ _ g,c⟩
 unfold Builtin.List.listLengthHint;refine À (Ů hT2 len_set ?_)
 wp_delta
 refine À (Ĳ (T:="set") (b:=true) hT2 (by rw[isSubtype_type];kernel_rfl) ?_);show Ë _ A.in1 (typeOf (ã a) >>= _) _ _ _;refine À (θ hT2 ?_);refine Ã ?_;rw[if_pos (by decide)];refine À (Ũ ?_);obtain ⟨n,fp,vs,St,en,W1,st,lI,fpk,kp,p2⟩:=W;have lI':s.heap.objs.size+1<=I:=by rw[<-z1];exact lI
 have hd:s.heap.objs.size∉fp:=λhm=>by
  rcases fpk _ hm with z|z
  ·exact absurd ha (by rw[<-z];exact ο _)
  ·have z':s.heap.objs.size+1<=s.heap.objs.size:=by rw[<-z1];exact z
   exact absurd z' (Nat.not_succ_le_self _)
 have gS:h'.get? s.heap.objs.size=some { cls:=.type "list",data:=.seq ([]:List Æ).toArray }:=kp _ _ g0;refine À ?_;show Ë _ _ (updateSeq s.heap.objs.size (·.push .none) >>= λ_=>updateSeq s.heap.objs.size (·.pop)) _ _ _;refine À (wpAny_updateSeq gS rfl ?_ (by simp) (by simp));have gS1:=Ő (Ĝ (·.push ó)) gS rfl;refine wpAny_updateSeq gS1 rfl ?_ (by simp;decide) (by simp);have gS2:=Ő (Ĝ (·.pop)) gS1 rfl;have oth:∀b o,b≠s.heap.objs.size->h'.get? b=some o->((h'.update s.heap.objs.size (Ĝ (·.push ó))).update s.heap.objs.size (Ĝ (·.pop))).get? b=some o:=λb o hb g=>by
  rw[Ŷ _ _ (ń hb),Ŷ _ _ (ń hb)];exact g
 have st2:=(W1 A.in1 (by simpa using hh)).frame 0 _ ((h'.update s.heap.objs.size (Ĝ (·.push ó))).update s.heap.objs.size (Ĝ (·.pop))) s.toks st (Ò _) λb hb o g=>oth b o (λz=>hd (z ▸ hb)) g;have hvl:n<=Õ:=by rw[en];exact qf7 (by omega)
 refine Ã ⟨Ζ F.plain_extend_loop _,?_⟩;refine codeAny_extend_loopS (W1 A.in1 (by simpa using hh)) hvl _ hd _ n 0 _ _ _ rfl (ķ _) st2 gS2 ⟨rfl,λj v z=>by simp at z⟩ λs2 acc c m g2 it=>?_;show Ë _ A (load s.heap.objs.size >>= _) _ _ s2;refine À (wpAny_load g2 ?_);have ev:acc.toList=vs:=by
  have hl:acc.size=n:=it.1;have hvn:vs.length=n:=by
   rw[p2.length_eq,en]
  refine List.ext_getElem? λj=>?_;cases hj:acc.toList[j]? with
  |none=>
   have:=List.getElem?_eq_none_iff.mp hj;rw[ä]at this;rw[ŝ (by omega)]
  |some v=>exact (it.2 j v (by rw[<-ğ];exact hj)).symm
 obtain ⟨h2,g',d2,tk,os⟩:=s2;have eg:g'=s.gens:=m.gens;have ed:d2=d:=m.drawn;have eo:os=s.os:=m.os;subst eg;subst ed;subst eo;refine Ã ?_;show Q acc.toList _;rw[ev];refine k vs h2 d2 tk p2 (é g2) λb o g=>?_;have hb:b<s.heap.objs.size:=é g;refine m.heap b o (λz=>?_) (oth b o (ş (.inl hb)) (kp b o (kp1 b o g)));have z':b=s.heap.objs.size\/b=I:=by simpa using z
 rcases z' with z|z
 ·exact absurd hb (by rw[z];exact ο _)
 ·exact absurd (ā hb (Nat.le_of_succ_le lI')) (by rw[z];exact ο _)
end
theorem SetL.v(x:SetL P w h a ks):∃us ns,SetV P w h a us/\Ļ us ns/\ns.Perm ks:=by
 obtain ⟨o,es,ep,t,g,gx,gd,_,⟨ns,hi,hp⟩,hb,hf,ht,hl⟩:=x;exact ⟨_,ns,⟨o,es,ep,t,g,gx,gd,.refl _,hb,hf,ht,hl⟩,hi,hp⟩
theorem fH(hh:A.handled=none)(hS:SetL P w s.heap a ks)(hz:ks.length<=4000)
  (k:∀vs ns h' d tk,Ļ vs ns->ns.Perm ks->s.heap.objs.size<h'.objs.size->(∀b o,s.heap.get? b=some o->h'.get? b=some o)->Q vs { s with heap:=h',drawn:=d,toks:=tk }):Ë (model P w) A (collect (.ref a)) Q E s:=by
 obtain ⟨us,ns,hV,hi,hp⟩:=hS.v;refine qg8 hh hV (by rw[IntsAre.length hi,hp.length_eq];exact hz) λvs h' d tk pv z kp=>?_;obtain ⟨ns',i1,p1⟩:=yde pv hi;exact k vs ns' h' d tk i1 (p1.trans hp) z kp
theorem qd6(f:Nat->Int)(k:Int):∀n,k∈cL f n↔∃i,i<n/\f i=k
 |0=>by
  unfold cL;constructor
  ·intro h;simp at h
  ·rintro ⟨i,h,_⟩;omega
 |n+1=>by
  have ih:=qd6 f k n;have e:k∈cL f (n+1)↔k∈cL f n\/k=f n:=by
   show k∈(if f n∈cL f n then cL f n else cL f n++[f n])↔_;split
   ·rename_i h
    exact ⟨.inl,λz=>z.elim id λz=>z ▸ h⟩
   ·rw[mem_append,ê]
  rw[e,ih];constructor
  ·rintro (⟨i,h,z⟩|z)
   ·exact ⟨i,by omega,z⟩
   ·exact ⟨n,by omega,z.symm⟩
  ·rintro ⟨i,h,z⟩;by_cases hi:i=n
   ·subst hi;exact .inr z.symm
   ·exact .inl ⟨i,by omega,z⟩
theorem ycw(f:Nat->Int):∀n,(cL f n).Nodup
 |0=>nodup_nil
 |n+1=>by
  have ih:=ycw f n;show (if f n∈cL f n then cL f n else cL f n++[f n]).Nodup;split
  ·exact ih
  ·rename_i h
   rw[nodup_append];exact ⟨ih,by simp,λx hx y hy z=>h (by rw[<-ê.mp hy,<-z];exact hx)⟩
noncomputable def uniq(ns:List Int):List Int:=cL (λi=>ns.getD i 0) ns.length
theorem uniq_mem(ns:List Int)(k:Int):k∈uniq ns↔k∈ns:=by
 unfold uniq;rw[qd6];constructor
 ·rintro ⟨i,h,z⟩;rw[à,Í h]at z;rw[<-z];exact ε h
 ·intro h;obtain ⟨i,hi,e⟩:=aF h;exact ⟨i,hi,by rw[à,Í hi,e];rfl⟩
theorem qh3(ns:List Int):(uniq ns).Nodup:=ycw _ _
theorem uniq_len(ns:List Int):(uniq ns).length<=ns.length:=ycq _ _
noncomputable def SetO(P:Ü)(w:ï)(a:Addr)(ks:List Int):HO:=.ext λh=>SetL P w h a ks
section
variable {P:Ü}{w:ï}{A:Ā}{E:Æ->Ç->Prop}{s:Ç}{a:Addr}{ks:List Int}
theorem sortedL(hh:A.handled=none)(hS:SetL P w s.heap a ks)(h64:ks.length<64)
  (k:∀l h' d tk vs ns e,s.heap.objs.size<=l->h'.get? l=some (ī "list" (Ġ vs) e)->Ļ vs ns->ns.Perm ks->ns.Pairwise (·<=·)->(∀b o,s.heap.get? b=some o->h'.get? b=some o)->Q (.ref l) { s with heap:=h',drawn:=d,toks:=tk }) :
  Ë (model P w) A (call (.builtin "sorted") [.ref a]) Q E s:=by
 refine Calls.call_function_entry kind_sorted plain_sorted entry_sorted (args_sorted1 (.ref a)) ?_;unfold Ĵ.«sorted»;refine À (m:=checkCount "sorted" 1 1 _) ?_;refine Ã ?_;refine À (fH (by simpa using hh) hS (by omega) λvs ns h1 d tk i1 p1 hz kp=>?_);have hvl:vs.length=ks.length:=by
  have h1:=IntsAre.length i1;rw[h1,p1.length_eq]
 refine À (wpAny_newList ?_ (qf7 (by omega)));have gL:(h1.push (ī "list" vs.toArray 0)).get? h1.objs.size=some (ī "list" vs.toArray 0):=Ô _ rfl;refine À (î (å slot_list_sort ⟨_,gL,rfl⟩ entry_list_sort (list_sort_tree gL i1 (by omega) λout n2 a1 a2 a3=>⟨_,rfl,?_⟩) (args_list_sort _)));obtain ⟨ep,ge⟩:=sortedHeap_at (out:=out) gL;refine Ã ⟨_,rfl,k _ _ d tk out.toList n2 ep (γ hz) (by simpa using ge) a1 (a2.trans p1) a3 λb o g=>?_⟩;have hb:b<h1.objs.size:=é (kp b o g);rw[sortedHeap_old (ĉ hb) (by rw[show (h1.push (ī "list" vs.toArray 0)).objs.size=h1.objs.size+1 from Ŀ ..];exact ű hb)];exact È _ (kp b o g)
end
section
variable {X:Cx}{pins:List (Addr×Obj)}{σ:St}{H:Hp}{s:Ç}
theorem Inv.draw(I:Inv X pins σ H s)(d:Drawn):Inv X pins σ H { s with drawn:=d }:=⟨I.ok,I.os,I.bare,I.base,I.loc,I.cell,I.free,I.freeC,I.pin,I.hok,I.len⟩
noncomputable def rSet(P:Ü)(w:ï):List V->Hp->VK->Prop:=λxs H Q=>∃(l:Addr) (ns:List Int),xs=[.ref l]/\H l=some (.lst (ns.map V.int))/\ns.length<=4000/\∀p,H p=none->Q (.ref p) (upd H p (SetO P w p (uniq ns)))
theorem yfp(hc:X.calm=true):bH X (.type "set") (rSet X.prog X.w):=by
 intro pins s σ H xs us Q I r h;obtain ⟨l,ns,rfl,hH,h4,q⟩:=h;cases r with
 |cons r rr=>
  cases rr;cases r;obtain ⟨z,its,n,rv,hl,e⟩:=I.lstM hH;have hil:its.length=ns.length:=by rw[<-hl,Ð]
  have hf:H s.heap.objs.size=none:=I.hok.fresh (Ò _);refine yje (by simpa using I.ok.hd hc) (its:=its.toArray) (ns:=ns) ⟨_,e,rfl,n,rfl⟩ (by simpa using ybx rv) (by rw[Ú,hil];unfold aD;omega) λh' tk S kp=>?_;have ez:its.toArray.size=ns.length:=by rw[Ú,hil]
  rw[ez]at S;refine ⟨.ref s.heap.objs.size,_,I.laid (o:=SetO X.prog X.w s.heap.objs.size (uniq ns)) (t':=tk) (λb o g=>kp b o (é g) g) (Ò _) ?_,rfl,q _ hf⟩;refine ⟨S,?_,λh1 h2 x y=>SetL.at x y⟩;obtain ⟨o,es,ep,t,g,_⟩:=S;exact ⟨o,g⟩
noncomputable def rLenSet(P:Ü)(w:ï):List V->Hp->VK->Prop:=λxs H Q=>∃(p:Addr) (ks:List Int),xs=[.ref p]/\H p=some (SetO P w p ks)/\Q (.int ks.length) H
theorem yge:bH X (.builtin "len") (rLenSet X.prog X.w):=by
 intro pins s σ H xs us Q I r h;obtain ⟨p,ks,rfl,hH,q⟩:=h;cases r with
 |cons r rr=>
  cases rr;cases r;obtain ⟨⟨o,es,ep,t,g,gx,gd,el,⟨ns,hi,hp⟩,hb,hf,ht,hl⟩,_⟩:=I.hok p _ hH;have hlen:es.size=ks.length:=by
   have h1:=IntsAre.length hi;rw[Ð,ä]at h1;rw[h1,hp.length_eq]
  refine call_len_set g gx gd hf (by unfold aD at hb;omega) ?_;rw[hlen];exact ⟨.int ks.length,H,I.tok _,⟨_,rfl⟩,q⟩
noncomputable def rSortSet(P:Ü)(w:ï):List V->Hp->VK->Prop:=λxs H Q=>∃(p:Addr) (ks:List Int),xs=[.ref p]/\H p=some (SetO P w p ks)/\ks.length<64/\∀(l:Addr) (ns:List Int),H l=none->ns.Perm ks->ns.Pairwise (·<=·)->Q (.ref l) (upd H l (.lst (ns.map V.int)))
theorem qe6(hc:X.calm=true):bH X (.builtin "sorted") (rSortSet X.prog X.w):=by
 intro pins s σ H xs us Q I r h;obtain ⟨p,ks,rfl,hH,h64,q⟩:=h;cases r with
 |cons r rr=>
  cases rr;cases r;obtain ⟨S,_⟩:=I.hok p _ hH;refine sortedL (by simpa using I.ok.hd hc) S h64 λl h' d tk vs ns e hz gl i1 p1 w1 kp=>?_;have hf:H l=none:=I.hok.fresh hz;refine ⟨.ref l,_,(I.draw d).laid (o:=.lst (ns.map V.int)) (t':=tk) (λb o g=>kp b o g) hz ?_,rfl,q l ns hf p1 w1⟩;exact ⟨qf7 (by rw[Ð,p1.length_eq];omega),vs,e,qe5 i1,gl⟩
end
section
variable {X:Cx}
noncomputable def rMinL:List V->Hp->VK->Prop:=λxs H Q=>∃(l:Addr) (ns:List Int),xs=[.ref l]/\H l=some (.lst (ns.map V.int))/\0<ns.length/\∀M,M∈ns->(∀a∈ns,M<=a)->Q (.int M) H
noncomputable def rMaxL:List V->Hp->VK->Prop:=λxs H Q=>∃(l:Addr) (ns:List Int),xs=[.ref l]/\H l=some (.lst (ns.map V.int))/\0<ns.length/\∀M,M∈ns->(∀a∈ns,a<=M)->Q (.int M) H
theorem yjr(hc:X.calm=true):bH X (.builtin "min") rMinL:=by
 intro pins s σ H xs us Q I r h;obtain ⟨l,ns,rfl,hH,hne,q⟩:=h;cases r with
 |cons r rr=>
  cases rr;cases r;obtain ⟨z,its,n,rv,hl,e⟩:=I.lstM hH;have hi:Ļ its ns:=ybx rv;obtain ⟨ys,e2⟩:=hi.allInts.items;have hns:ns=ys.toList.map (·.1):=by rw[<-hi.numsOf,<-nums_intItems,<-e2]
  have hsz:0<ys.size:=by
   have h3:=hne;rw[hns,Ð,ä]at h3;exact h3
  have hl':s.heap.IsList l its.toArray:=⟨_,e,rfl,n,rfl⟩;rw[e2]at hl';refine min_intList (I.ok.hd hc) hl' hsz λv h' tk hv hk=>?_;obtain ⟨t,rfl⟩:=intItems_at hv;obtain ⟨h1,h2⟩:=argBest_lt (numAt ys) (ys.size-1);refine ⟨.int _,H,I.kept hk,⟨_,rfl⟩,q _ ?_ λa ha=>?_⟩
  ·rw[hns,numAt_eq];exact getD_mem (by rw[Ð,ä];omega)
  ·rw[hns]at ha;obtain ⟨j,hj,rfl⟩:=mem_getD ha;rw[Ð,ä]at hj;rw[<-numAt_eq];exact h2 j (by omega)
theorem qj0(hc:X.calm=true):bH X (.builtin "max") rMaxL:=by
 intro pins s σ H xs us Q I r h;obtain ⟨l,ns,rfl,hH,hne,q⟩:=h;cases r with
 |cons r rr=>
  cases rr;cases r;obtain ⟨z,its,n,rv,hl,e⟩:=I.lstM hH;have hi:Ļ its ns:=ybx rv;obtain ⟨ys,e2⟩:=hi.allInts.items;have hns:ns=ys.toList.map (·.1):=by rw[<-hi.numsOf,<-nums_intItems,<-e2]
  have hsz:0<ys.size:=by
   have h3:=hne;rw[hns,Ð,ä]at h3;exact h3
  have hl':s.heap.IsList l its.toArray:=⟨_,e,rfl,n,rfl⟩;rw[e2]at hl';refine max_intList (I.ok.hd hc) hl' hsz λv h' tk hv hk=>?_;obtain ⟨t,rfl⟩:=intItems_at hv;obtain ⟨h1,h2⟩:=argBest_gt (numAt ys) (ys.size-1);refine ⟨.int _,H,I.kept hk,⟨_,rfl⟩,q _ ?_ λa ha=>?_⟩
  ·rw[hns,numAt_eq];exact getD_mem (by rw[Ð,ä];omega)
  ·rw[hns]at ha;obtain ⟨j,hj,rfl⟩:=mem_getD ha;rw[Ð,ä]at hj;rw[<-numAt_eq];exact h2 j (by omega)
end
end L2
namespace L2
open PySem PySem.Spec PyProof.Rows PySem.W
noncomputable def isS(b:Str):Æ->Bool
 |.str c _=>c == b
 |_=>false
theorem qfw:∀{xs:List Str}{us:List Æ},Vals (xs.map V.str) us->(∀y∈us,SeqAt.EqAt A s y (.str b tk) (isS b y))/\us.countP (isS b)=xs.countP (· == b)
 |[],us,h=>by cases h;exact ⟨λy hy=>by simp at hy,rfl⟩
 |x::xs,us,h=>by
  cases h with
  |cons r rr=>
   obtain ⟨t,rfl⟩:=r;obtain ⟨h1,h2⟩:=qfw (A:=A) (s:=s) (b:=b) (tk:=tk) rr;refine ⟨λy hy=>?_,?_⟩
   ·rcases ñ.mp hy with rfl|hy
    ·exact SeqAt.EqAt.str_str x t b tk
    ·exact h1 y hy
   ·rw[countP_cons,countP_cons,h2];rfl
section
variable {X:Cx}
noncomputable def rCountS(K:Þ):V->List V->Hp->VK->Prop:=λx vs H Q=>∃(l:Addr) (ns:List Str) (b:Str),x=.ref l/\vs=[.str b]/\SqT K H l (ns.map V.str)/\Q (.int (ns.countP (· == b):Nat)) H
theorem yh8:MtM X "tuple.count" (rCountS X.K):=by
 intro pins s σ H x vs v us Q I rx rv h;obtain ⟨l,ns,b,rfl,rfl,hH,q⟩:=h;cases rx;obtain ⟨u,rfl,ru⟩:=rv.one;obtain ⟨t,rfl⟩:=ru;obtain ⟨its,r,⟨o,g,hc,n,hd⟩,z⟩:=I.tuple hH;obtain ⟨oc,od,oa,os⟩:=o;simp only at hc hd;subst hc;subst hd;obtain ⟨_,h2⟩:=qfw (A:=X.A) (s:=s) (b:=b) (tk:=t) r;refine call_meets PySem.F.slot_tuple_count ⟨_,g,rfl⟩ PySem.F.entry_tuple_count (PySem.F.args_tuple_count_2 _ _) (SeqAt.tuple_countAt l its.toArray n _ _ (.str b t) (isS b)) ⟨g,λy hy=>(qfw r).1 y (by simpa using hy),?_⟩;rw[show its.toArray.toList=its from rfl,h2];exact ⟨.int _,_,I.tok _,⟨_,rfl⟩,q⟩
end
end L2
namespace L2
open PySem PySem.Spec PyProof.Rows
section
variable {X:Cx}{tg:Expr}
noncomputable def SeqJ(K:Þ)(a:Addr)(H:Hp)(J:It):Prop:=(J=Itl K a/\∃xs,SqL K H a xs)\/(J=Itt K a/\∃xs,SqT K H a xs)
noncomputable def iSeq(K:Þ)(tl:TE):TI:=λσ H R=>tl σ H λx H1=>∃a J,x=.ref a/\SeqJ K a H1 J/\R J H1
theorem pi_seq(hl:PE X l tl):PI X tg l (iSeq X.K tl):=by
 intro pins s σ H R I h;refine thn (hl pins s σ H _ I h) λv s1 ⟨x,H1,I1,r1,q1⟩=>?_;obtain ⟨a,J,e,hj,q⟩:=q1;subst e;cases r1;have fk:∀b∈[s1.heap.objs.size],FpOk X pins H1 b:=λb hb=>by
  have e:b=s1.heap.objs.size:=by simpa using hb
  subst e;exact I1.fpOk (Ò _) (I1.hok.fresh (Ò _))
 rcases hj with ⟨rfl,xs,hq⟩|⟨rfl,xs,hq⟩
 ·obtain ⟨its,rv,p,hz⟩:=I1.list hq;exact Χ p.isList ⟨s1.heap.objs.size,[s1.heap.objs.size],_,_,H1,rfl,I1.kept (t':=s1.toks) λb o e=>È _ e,yh9 a _,⟨_,Ô _ rfl,rfl,rfl⟩,fk,q⟩
 ·obtain ⟨its,rv,p,hz⟩:=I1.tuple hq;exact wpAny_pyIter_tuple (show s1.heap.IsTuple a its.toArray from p) ⟨s1.heap.objs.size,[s1.heap.objs.size],_,_,H1,rfl,I1.kept (t':=s1.toks) λb o e=>È _ e,qhv a _,⟨_,Ô _ rfl,rfl,rfl⟩,fk,q⟩
end
mutual
noncomputable def ŧ:Â->Bool
 |.int _=>true
 |.str x=>(PyData.str x).canLay0
 |.tuple xs=>dJ xs
 |.none|.bool _|.list _|.dict _=>false
noncomputable def dJ:List Â->Bool
 |[]=>true
 |x::xs=>ŧ x&&dJ xs
end
mutual
noncomputable def qd5:Â->Nat
 |.tuple xs=>eT xs+1
 |.int _|.str _|.none|.bool _|.list _|.dict _=>1
noncomputable def eT:List Â->Nat
 |[]=>0
 |x::xs=>qd5 x+eT xs
end
mutual
noncomputable def yhg(w:ï):Â->Int
 |.int i=>hashInt i
 |.str x=>hashStr w x
 |.tuple xs=>reduceHash (Š (eR w xs))
 |.none|.bool _|.list _|.dict _=>0
noncomputable def eR(w:ï):List Â->List Int
 |[]=>[]
 |x::xs=>yhg w x::eR w xs
end
theorem qd4(w:ï):∀(xs ys:List Â),eR w (xs++ys)=eR w xs++eR w ys
 |[],_=>by simp[eR]
 |x::xs,ys=>by simp[eR,qd4 w xs ys]
theorem yc8:∀(xs ys:List Â),eT (xs++ys)=eT xs+eT ys
 |[],_=>by simp[eT]
 |x::xs,ys=>by simp[eT,yc8 xs ys,Nat.add_assoc]
theorem qda:∀{xs:List Â}{x:Â},x∈xs->x.depth<=ŏ xs
 |y::ys,x,h=>by
  simp only[ŏ];rcases ñ.mp h with rfl|h
  ·omega
  ·have:=qda h;omega
mutual
theorem ycm:∀(x y:Â),ŧ x=true->ŧ y=true->(ì x y=true↔x=y)
 |.int _,y,_,hy=>by cases y<;>simp_all [ì,ŧ]
 |.str _,y,_,hy=>by cases y<;>simp_all [ì,ŧ]
 |.tuple xs,.tuple ys,hx,hy=>by
  simp only[ì,PyData.tuple.injEq];exact yg2 xs ys (by simpa [ŧ] using hx) (by simpa [ŧ] using hy)
 |.tuple _,.int _,_,_=>by simp[ì]
 |.tuple _,.str _,_,_=>by simp[ì]
 |.tuple _,.none,_,hy|.tuple _,.bool _,_,hy|.tuple _,.list _,_,hy|.tuple _,.dict _,_,hy=>by simp[ŧ]at hy
 |.none,_,hx,_|.bool _,_,hx,_|.list _,_,hx,_|.dict _,_,hx,_=>by simp[ŧ]at hx
theorem yg2:∀(xs ys:List Â),dJ xs=true->dJ ys=true->(œ xs ys=true↔xs=ys)
 |[],[],_,_=>by simp[œ]
 |[],_::_,_,_=>by simp[œ]
 |_::_,[],_,_=>by simp[œ]
 |x::xs,y::ys,hx,hy=>by
  simp only[dJ,Å]at hx hy;simp only[œ,Å,Ś,ycm x y hx.1 hy.1,yg2 xs ys hx.2 hy.2]
end
mutual
theorem qdk:∀(x:Â),ŧ x=true->x.canLay0=true
 |.int _,_=>rfl
 |.str _,h=>by simpa [ŧ] using h
 |.tuple xs,h=>qg5 xs (by simpa [ŧ] using h)
 |.none,h|.bool _,h|.list _,h|.dict _,h=>by simp[ŧ]at h
theorem qg5:∀(xs:List Â),dJ xs=true->PyData.canLayAll0 xs=true
 |[],_=>rfl
 |x::xs,h=>by
  simp only[dJ,Å]at h;simp only[PyData.canLayAll0,qdk x h.1,qg5 xs h.2,Bool.and_self]
end
mutual
theorem yfe{es ep}(e:h.get? dd=some ob)(ed:ob.data=.dict es ep)(sb:ü dd h h'):∀{v:Æ}{d:Â}{as:List Addr},Reads h v d as->ŧ d=true->Reads h' v d as
 |_,_,_,.int i t,_=>.int i t
 |_,_,_,.str i t,_=>.str i t
 |_,_,_,.tuple h1 h2 h3 h4,k=>.tuple ((sb.2 _ λz=>by
   subst z;rw[e]at h1;cases h1;rw[ed]at h3;cases h3).trans h1) h2 h3 (yd4 e ed sb h4 (by simpa [ŧ] using k))
 |_,_,_,.none,k|_,_,_,.bool _,k|_,_,_,.list ..,k|_,_,_,.dict ..,k=>by simp[ŧ]at k
theorem yd4{es ep}(e:h.get? dd=some ob)(ed:ob.data=.dict es ep)(sb:ü dd h h'):∀{vs:List Æ}{ds:List Â}{as:List Addr},ReadsAll h vs ds as->dJ ds=true->ReadsAll h' vs ds as
 |_,_,_,.nil,_=>.nil
 |_,_,_,.cons r1 r2,k=>.cons (yfe e ed sb r1 (by simp only[dJ,Å]at k;exact k.1)) (yd4 e ed sb r2 (by simp only[dJ,Å]at k;exact k.2))
end
section
variable {P:Ü}{w:ï}{E:Æ->Ç->Prop}
mutual
theorem yg9:∀(d:Â) (v:Æ) (A:Ā) (s:Ç) (Q:Int->Ç->Prop) (as:List Addr),ŧ d=true->Reads s.heap v d as->A.units+d.depth+1<Ž->Q (yhg w d) { s with toks:=s.toks+qd5 d }->Ë (model P w) A (pyHash v) Q E s
 |.int i,v,A,s,Q,as,_,r,_,q=>by
  cases r;exact wpAny_pyHash_int q
 |.str i,v,A,s,Q,as,_,r,_,q=>by
  cases r;exact wpAny_pyHash_str q
 |.tuple xs,v,A,s,Q,as,k,r,hu,q=>by
  generalize hd:Ŝ xs=d at r;cases r<;>cases hd
  rename_i a ob its c eo ec ed ra
  have ty:s.TypeIs (.ref a) "tuple":=⟨ob,eo,ec⟩;have hx:=qd0 xs (by simpa [ŧ] using k);simp only[PyData.depth]at hu;unfold pyHash
  first|unfold pyHashByItsType|skip
  first|refine À (wpAny_cRoomFor_or (.inr (show A.units<Ž by omega)) ?_)|skip
  refine À (Ů ty PySem.F.slot_tuple_hash.lookup ?_);show Ë _ _ (if (some (Value.builtin "tuple.__hash__") == some ó)=true then _ else _) Q E s;rw[if_neg (by rw[beq_builtin_none];simp)];refine À (Ů ty PySem.F.slot_tuple_hash.lookup ?_);show Ë _ _ (callSpecialIfBoundUnlessNone? (.ref a) "__hash__" _ >>= _) Q E s;refine À (wpAny_callSpecialIfBoundUnlessNone?_slot ty PySem.F.slot_tuple_hash (å PySem.F.slot_tuple_hash ty PySem.F.entry_tuple_hash ?_ (PySem.F.args_tuple_hash_1 _)));show Ë _ _ (Builtin.Tuple.tupleItemsOf (.ref a) >>= _) _ _ s;refine À (wpAny_tupleItemsOf eo ed ?_);refine À ?_;rw[<-forIn_toList];refine aB _ (λrest (hs:Array Int) s'=>∃dn lf bs,xs=dn++lf/\ReadsAll s.heap rest lf bs/\hs.toList=eR w dn/\s'={ s with toks:=s.toks+eT dn }) _ ?_ ?_ _ _ ⟨[],xs,_,rfl,ra,rfl,rfl⟩
  ·rintro v rest hs s' ⟨dn,lf,bs,rfl,pl,eh,rfl⟩;cases pl with
   |@cons _ _ x lf' b1 b2 p pl=>
    have fin:∃dn' lf'' bs',dn++x::lf'=dn'++lf''/\ReadsAll s.heap rest lf'' bs'/\(hs.push (yhg w x)).toList=eR w dn'/\({ s with toks:=s.toks+eT dn+qd5 x }:Ç)={ s with toks:=s.toks+eT dn' }:=
     ⟨dn++[x],lf',_,by simp,pl,by simp[eh,qd4,eR],by simp[yc8,eT,Nat.add_assoc]⟩
    have dx:x.depth<=ŏ (dn++x::lf'):=qda (ġ _ (Ì ..));refine À (hx x (ġ _ (Ì ..)) v A.in1 { s with toks:=s.toks+eT dn } _ _ p (show A.units+1+x.depth+1<Ž by omega) ?_)
    first
     |exact Ã fin
     |exact À (Ã (Ã fin))
  ·rintro hs s' ⟨dn,lf,bs,rfl,pl,eh,rfl⟩;cases pl;rw[Ĺ]at q;show Ë _ _ (retInt (Š hs.toList)) _ _ _;rw[eh];refine wpAny_ret_mkInt ?_;unfold yhg qd5 reduceHash at q;show Ë _ _ (if (decide (-(2:Int) ^ 63<=Š (eR w dn))&&decide (Š (eR w dn)<2 ^ 63))=true then _ else _) Q E _;split
   ·rename_i z
    rw[if_pos z]at q;exact Ã (by simpa [Nat.add_assoc] using q)
   ·rename_i z
    rw[if_neg z]at q;exact À (Ũ (Ã (by simpa [Nat.add_assoc] using q)))
 |.none,_,_,_,_,_,k,_,_,_|.bool _,_,_,_,_,_,k,_,_,_|.list _,_,_,_,_,_,k,_,_,_|.dict _,_,_,_,_,_,k,_,_,_=>by simp[ŧ]at k
theorem qd0:∀(xs:List Â),dJ xs=true->∀x∈xs,∀(v:Æ) (A:Ā) (s:Ç) (Q:Int->Ç->Prop) (as:List Addr),Reads s.heap v x as->A.units+x.depth+1<Ž->Q (yhg w x) { s with toks:=s.toks+qd5 x }->Ë (model P w) A (pyHash v) Q E s
 |[],_,x,hx=>nomatch hx
 |y::ys,k,x,hx=>by
  simp only[dJ,Å]at k;rcases ñ.mp hx with e|hx
  ·rw[e];intro v A s Q as r hu q;exact yg9 y v A s Q as k.1 r hu q
  ·exact qd0 ys k.2 x hx
end
mutual
theorem qfh:∀(d:Â) (n:Nat) (v:Æ) (A:Ā) (s:Ç) (Q:Bool->Ç->Prop) (as:List Addr),ŧ d=true->Reads s.heap v d as->d.depth<n->Q true s->Ë (model P w) A (eqIsQuiet n v) Q E s
 |.int i,n,v,A,s,Q,as,_,r,_,q=>by
  cases r;rw[eqIsQuiet_byValue _ rfl];exact Ã q
 |.str i,n,v,A,s,Q,as,_,r,_,q=>by
  cases r;rw[eqIsQuiet_byValue _ rfl];exact Ã q
 |.tuple xs,n,v,A,s,Q,as,k,r,hn,q=>by
  generalize hd:Ŝ xs=d at r;cases r<;>cases hd
  rename_i a ob its c eo ec ed ra
  have ty:s.TypeIs (.ref a) "tuple":=⟨ob,eo,ec⟩;have hx:=qdz xs (by simpa [ŧ] using k);simp only[PyData.depth]at hn;obtain ⟨m,rfl⟩:∃m,n=m+1:=⟨n-1,by omega⟩;unfold eqIsQuiet;refine À (Ů ty PySem.F.slot_tuple_eq.lookup ?_);show Ë _ _ (isInstance (.ref a) (.type "tuple") >>= _) _ _ s;refine À (Ĳ ty isSubtype_tuple_tuple ?_);simp only[Ţ,Ý,if_false];refine À (ē eo ed (À ?_));show Ë _ _ (forIn its _ _) _ _ s;rw[<-forIn_toList];refine aB _ (λrest z s'=>z.1=none/\s'=s/\∃lf bs,ReadsAll s.heap rest lf bs/\∀x∈lf,x∈xs) _ ?_ ?_ _ _ ⟨rfl,rfl,xs,_,ra,λ_ h=>h⟩
  ·rintro v rest z s' ⟨hz,rfl,lf,bs,pl,hm⟩;cases pl with
   |@cons _ _ x lf' b1 b2 p pl=>
    have go:Ë (model P w) A (eqIsQuiet m v) (λb s2=>b=true/\s2=s') E s':=hx x (hm x (Ì ..)) m v A s' _ _ p (by have:=qda (hm x (Ì ..));omega) ⟨rfl,rfl⟩;refine À (Ň go (λb s2 ⟨e1,e2⟩=>?_) λ_ _ x=>x);subst e1 e2;simp only[Ţ,Ý,if_false];exact Ã ⟨rfl,rfl,lf',_,pl,λx hx=>hm x (Ê _ hx)⟩
  ·rintro ⟨z1,z2⟩ s' ⟨hz,rfl,_⟩;simp only at hz;subst hz;exact Ã q
 |.none,_,_,_,_,_,_,k,_,_,_|.bool _,_,_,_,_,_,_,k,_,_,_|.list _,_,_,_,_,_,_,k,_,_,_|.dict _,_,_,_,_,_,_,k,_,_,_=>by simp[ŧ]at k
theorem qdz:∀(xs:List Â),dJ xs=true->∀x∈xs,∀(n:Nat) (v:Æ) (A:Ā) (s:Ç) (Q:Bool->Ç->Prop) (as:List Addr),Reads s.heap v x as->x.depth<n->Q true s->Ë (model P w) A (eqIsQuiet n v) Q E s
 |[],_,x,hx=>nomatch hx
 |y::ys,k,x,hx=>by
  simp only[dJ,Å]at k;rcases ñ.mp hx with e|hx
  ·rw[e];intro n v A s Q as r hn q;exact qfh y n v A s Q as k.1 r hn q
  ·exact qdz ys k.2 x hx
end
end
noncomputable instance decD:DecidableEq Â:=λa b=>Classical.propDecidable (a=b)
noncomputable def KeyAt(h:Heap)(d:Â)(a:Addr):Prop:=ŧ d=true/\d.depth<=6/\∃as,Reads h (.ref a) d as
noncomputable def ybi(P:Ü)(w:ï):HeapKind P w Â where
 is:=KeyAt
 hash:=yhg w
 draws:=qd5
 room:=λA=>A.units+8<Ž
 inj:=λ{h a x y} ⟨k,_,_,r⟩ ⟨k',_,_,r'⟩=>(PySem.SeqAt.readOf_eq (qdk x k) r).symm.trans (PySem.SeqAt.readOf_eq (qdk y k') r')
 keeps:=λ⟨k,n,as,r⟩ e ed sb=>⟨k,n,as,yfe e ed sb r k⟩
 pyHash:=λ{A E s k a Q} hu ⟨kd,n,as,r⟩ q=>yg9 k _ A s Q as kd r (by omega) q
 eqBool:=λ{A E s x y a b Q} hu ⟨k,n,as,r⟩ ⟨k',n',as',r'⟩ q=>PySem.SeqAt.eqAt_reads x y A s _ _ _ _ r r' (qdk x k) (qdk y k') (by have:=Nat.min_le_left x.depth y.depth;omega) P w E Q (by
  rw[show ì x y=decide (x=y) by rw[Bool.eq_iff_iff,decide_eq_true_iff];exact ycm x y k k'];exact q)
 quiet:=λ{A E s k a Q} ⟨kd,n,as,r⟩ q=>qfh k 8 _ A s Q as kd r (by omega) q
noncomputable abbrev DE:=Â×Addr×V
noncomputable abbrev KDt:List DE->List (Â×Addr×Æ)->Prop:=Paired λp q=>p.1=q.1/\p.2.1=q.2.1/\RelV p.2.2 q.2.2
noncomputable def cj(es:List DE)(k:Â):Option V:=(es.find? λe=>decide (e.1=k)).map (·.2.2)
noncomputable def DT_(P:Ü)(w:ï)(a:Addr)(es:List DE):HO:=.ext λh=>es.length<=Õ/\(a == Ħ)=false/\∃xs,KDt es xs/\
 ∃o ds ep,h.get? a=some o/\o.ExactDict/\o.data=.dict ds ep/\ds.toList=xs.map (entryOfKey (ybi P w))/\(xs.map (·.1)).Nodup
theorem KDt.val(r:KDt es xs)(k:Â):RelO (cj es k) ((atKey xs k).map (·.2)):=by
 induction r with
 |nil=>exact į
 |@cons p q ps qs h t ih=>
  obtain ⟨h1,_,h2⟩:=h;unfold cj atKey at ih ⊢;rw[Ŋ,Ŋ,<-h1];by_cases e:p.1=k
  ·rw[decide_eq_true e];exact h2
  ·rw[decide_eq_false e];exact ih
section
variable {P:Ü}{w:ï}{H:Hp}{h:Heap}{a:Addr}
theorem qia(z:es.length<=Õ)(y:(a == Ħ)=false){xs:List (Â×Addr×Æ)}(r:KDt es xs)(d:h.DictOfH (ybi P w) a xs):bh P w H' h a (DT_ P w a es):=by
 obtain ⟨o,ds,ep,h1,h2,h3,h4,_,h5⟩:=d;refine ⟨⟨z,y,xs,r,o,ds,ep,h1,h2,h3,h4,h5⟩,⟨o,h1⟩,λg1 g2 ⟨z,y,xs,r,o,ds,ep,h1,h2,h3,h4,h5⟩ k=>⟨z,y,xs,r,o,ds,ep,k o h1,h2,h3,h4,h5⟩⟩
end
section
variable {X:Cx}{pins:List (Addr×Obj)}{σ:St}{H:Hp}{s:Ç}{a b:Addr}{v:V}{u r:Æ}{A:Ā}{E:Æ->Ç->Prop}{es:List DE}{k:Â}
theorem qcn(hu:A.units+64<Ž):(ybi X.prog X.w).room A.in1:=show A.units+1+8<Ž by omega
end
noncomputable def tTNew(P:Ü)(w:ï):TE:=λ_ H Q=>∀p,H p=none->Q (.ref p) (upd H p (DT_ P w p []))
section
variable {X:Cx}{o i e value:Expr}{pos pos':Pos}{td ty tv:TE}
theorem qjq(h:Heap)(hb:Ħ<h.objs.size):bh P w H (h.push { cls:=.type "dict",data:=.dict #[] }) h.objs.size (DT_ P w h.objs.size []):=
 qia (ķ _) (beq_eq_false_iff_ne.mpr (ai hb)) .nil (Heap.DictOfH.new h)
theorem yiv:PE X (.Dict [] [] pos) (tTNew X.prog X.w):=λpins s σ H Q I h=>
 wpAny_Dict_empty ⟨.ref s.heap.objs.size,_,I.laid (a:=s.heap.objs.size) (o:=DT_ X.prog X.w s.heap.objs.size []) (t':=s.toks) (λ_ _ q=>È _ q) (Ò _) (qjq s.heap I.big),rfl,h _ (I.hok.fresh (Ò _))⟩
end
section
variable {X:Cx}
noncomputable def tBMT(P:Ü)(w:ï)(r:V->List V->Hp->VK->Prop)(to:TE)(t:TA):TE:=λσ H Q=>to σ H λx H1=>(∃a es,x=.ref a/\H1 a=some (DT_ P w a es))/\t σ H1 λxs H2=>r x xs H2 Q
variable {o e:Expr}{es:List Expr}{to:TE}{t:TA}{name:Str}{apos cpos:Pos}{id:String}{r:V->List V->Hp->VK->Prop}
theorem pe_bmT(slot:Slot "dict" name id)(hty:typeOf (.builtin id)=pure (.type "method_descriptor"))(hm:MtR X id r)(ho:PE X o to)(ha:PA X (e::es) t)
  (hbase:Ű o name X.env (eval o X.env)=eval o X.env:=by rfl)
  (hfew:((ľ cpos (â (e::es) X.env)).all (λx=>!x.1)&&(backToKw cpos (ť [] X.env)).all (λx=>x.1.isSome)
   && decide ((e::es).length+([]:List Keyword).length+(if ([]:List Keyword).isEmpty then 0 else 1)<30))=true:=by rfl)
  (hline:(apos.endLine == cpos.line)=true:=by rfl) (hs:â (e::es) X.env=(false,eval e X.env)::â es X.env:=by rfl) (hplain:(ľ cpos (â es X.env)).any (·.1)=false:=by rfl) :
  PE X (.Call (.Attribute o name apos) (e::es) [] cpos) (tBMT X.prog X.w r to t):=by
 intro pins s σ H Q I h;refine wpAny_Call_method_late hbase hfew hline rfl (thn (ho pins s σ H _ I h) λv s1 ⟨x,H1,I1,r1,ty,q1⟩=>?_);have h12:s1.TypeIs v "dict"/\∀a,v=.ref a->∃ob,s1.heap.get? a=some ob/\ob.dict=none:=by
  obtain ⟨a,es,rfl,ea⟩:=ty;cases r1;obtain ⟨⟨_,_,_,_,ob,_,_,g1,g2,_⟩,_⟩:=(show bh X.prog X.w H1 s1.heap a (DT_ X.prog X.w a es) from I1.hok a _ ea);exact ⟨⟨ob,g1,g2.1⟩,λb e=>by cases e;exact ⟨ob,g1,g2.2.1⟩⟩
 refine ⟨"dict",id,a9,slot,hty,h12.1,h12.2,?_⟩;have hA:=ha cpos pins s1 σ H1 _ I1 q1;rw[hs]at hA ⊢;refine Calls.callWith_builtin (by show (false||(ľ cpos (â es X.env)).any (·.1))=false;rw[hplain]<;>rfl) (Calls.evalArgs_plain ?_);exact thn hA λus s2 ⟨vs,H2,I2,r2,q2⟩=>hm pins s2 σ H2 x vs v us Q I2 r1 r2 q2
end
end L2
namespace L2
open PySem PySem.Spec PyProof.Rows PySem.W
section
variable {prog:Ü}{w:ï}{A:Ā}{E:Æ->Ç->Prop}{s:Ç}
theorem qfx{α:Type}{d:α}:∀{vs:List α},vs.length<2->((Ġ (õ vs.length)).toList.map λi=>vs.getD i d)=vs
 |[],_=>rfl
 |[v],_=>rfl
 |_::_::_,h=>absurd h (by simp)
theorem yhf{a:Addr}{vs:List Æ}{n:Nat}{P:PySem.Fin->Ç->Prop}(ho:s.heap.get? a=some (ī "list" vs.toArray n))(h1:vs.length<2)(h:P (.done (.ret .none)) { s with heap:=sortedHeap s.heap a vs vs.toArray }) :
  Ë (model prog w) A (Ĵ.«list.sort» ⟨[.ref a],[]⟩) P E s:=by
 rw[list_sort_plain];have ha:a<s.heap.objs.size:=é ho;refine À (listItems_at ho rfl ?_);refine À (listUpdate_at ho rfl ?_);obtain ⟨e1,ho1⟩:∃e1,(s.heap.update a (Ĝ λ_=>#[])).get? a=some (ī "list" #[] e1):=⟨_,get?_update_seq ho (λ_=>#[])⟩;refine À (seqEpoch_at ho1 rfl ?_);refine À (Ψ ?_);refine À (wpAny_newList ?_);refine î ?_;have ho6:(((s.heap.update a (Ĝ λ_=>#[])).push (ī "tuple" vs.toArray 0)).push (ī "list" #[] 0)).get? a=some (ī "list" #[] e1):=by
  rw[Heap.get?_push_ne _ _ _ (by rw[size_push',size_update];exact ĉ (ű ha)),Heap.get?_push_ne _ _ _ (by rw[size_update];exact ĉ ha)];exact ho1
 show Ë (model prog w) A _ P E { s with heap:=((s.heap.update a (Ĝ λ_=>#[])).push (ī "tuple" vs.toArray 0)).push (ī "list" #[] 0) };dsimp only;have hsz:vs.toArray.size=vs.length:=by simp
 have h2:vs.toArray.size<2:=by omega
 rw[if_pos h2,if_pos h2];refine À (Ã ?_);rw[StateT.run_pure];refine À (Ã ?_);dsimp only;refine À (seqEpoch_at ho6 rfl ?_);have eo:(arrOf (SortSt.mk' general' (vs.toArray.zip vs.toArray) #[] 7 none)).map (·.2)=Ġ ((Ġ (õ vs.length)).toList.map λi=>vs.getD i ó):=by
  refine kat_snds (ks:=vs) (vs:=vs) rfl (p:=Ġ (õ vs.length)) ?_;have e:=kas_range (vs.toArray.zip vs.toArray);rw[show (vs.toArray.zip vs.toArray).size=vs.length by simp]at e;exact e.symm
 rw[eo];refine À (listUpdate_at ho6 rfl ?_ (hsz2:=by rw[Ú,Ð,ä,Ú,π,sizeLine_eq];omega));simp only[bne_self_eq_false,Ý,if_false];refine Ã ?_;rw[qfx h1];exact h
end
end L2
namespace L2
open PySem PySem.Spec PyProof.Rows
noncomputable def ζ(t:ė):Nat->ě->ě
 |0,p=>p
 |n+1,p=>ζ t n (t.advance p)
theorem ya0(t:ė):∀(a b:Nat) (p:ě),ζ t (a+b) p=ζ t b (ζ t a p)
 |0,b,p=>by rw[Nat.zero_add];rfl
 |a+1,b,p=>by
  rw[Nat.add_right_comm];exact ya0 t a b (t.advance p)
noncomputable def Pr8(p:ě):Prop:=p.more=0/\p.j=p.i/\p.i<8/\p.dummy=none
theorem run8(h:i<8):SetTable.runEnd 7 i-i=0:=by
 unfold SetTable.runEnd;rw[if_neg (by omega)];omega
theorem start8{t:ė}(hm:t.mask=7)(h:Int):Pr8 (t.probeStart h)/\(t.probeStart h).perturb<2 ^ 64:=by
 unfold SetTable.probeStart;rw[hm];have hi:SetTable.bits h % (7+1)<8:=mod_lt _ (by decide);refine ⟨⟨run8 hi,rfl,hi,rfl⟩,?_⟩;show SetTable.bits h<2 ^ 64;unfold SetTable.bits;have h0:=aG h (show ((2:Int) ^ 64)≠0 by decide);have h1:=Α h (show (0:Int)<(2:Int) ^ 64 by decide);omega
theorem adv8{t:ė}(hm:t.mask=7){p:ě}(hp:Pr8 p):Pr8 (t.advance p)/\(t.advance p).i=(p.i*5+1+p.perturb / 32) % 8/\(t.advance p).perturb=p.perturb / 32:=by
 obtain ⟨h1,h2,h3,h4⟩:=hp;have hi:(p.i*5+1+p.perturb / 32) % 8<8:=mod_lt _ (by decide);unfold SetTable.advance SetTable.leap;rw[h1,if_neg (by decide),hm];exact ⟨⟨run8 hi,rfl,hi,h4⟩,rfl,rfl⟩
theorem yej(hm:t.mask=7):∀(n:Nat) {p:ě},Pr8 p->Pr8 (ζ t n p)/\(ζ t n p).perturb=p.perturb / 32 ^ n
 |0,p,hp=>⟨hp,by rw[Nat.pow_zero,Nat.div_one];rfl⟩
 |n+1,p,hp=>by
  obtain ⟨a,_,c⟩:=adv8 hm hp;obtain ⟨x,y⟩:=yej hm n a;refine ⟨x,?_⟩;show (ζ t n (t.advance p)).perturb=_;rw[y,c,Nat.div_div_eq_div_mul,Nat.pow_succ,Nat.mul_comm]
noncomputable def it8:Nat->Nat->Nat
 |0,x=>x
 |n+1,x=>it8 n ((x*5+1) % 8)
theorem cycle8(hm:t.mask=7){p:ě}(hp:Pr8 p)(h0:p.perturb=0):∀n,(ζ t n p).i=it8 n p.i/\(ζ t n p).perturb=0:=by
 intro n;induction n generalizing p with
 |zero=>exact ⟨rfl,h0⟩
 |succ n ih=>
  obtain ⟨a,b,c⟩:=adv8 hm hp;rw[h0]at b c;have:=ih a c;refine ⟨?_,this.2⟩;show (ζ t n (t.advance p)).i=_;rw[this.1,b];rfl
theorem all8:∀i:Fin 8,∀j:Fin 8,∃n:Fin 8,it8 n.val i.val=j.val:=by decide
theorem meets8(hm:t.mask=7){p:ě}(hp:Pr8 p)(h64:p.perturb<32 ^ 13){j:Nat}(hj:j<8):∃n,n<21/\(ζ t n p).j=j:=by
 have key:∀(d:Nat) (q:ě),q=ζ t d p->p.perturb<32 ^ d->∃n,n<8/\(ζ t n q).j=j:=λd q hq hd=>by
  obtain ⟨a,b⟩:=yej hm d hp;rw[<-hq]at a b;rw[Nat.div_eq_of_lt hd]at b;obtain ⟨n,hn⟩:=all8 ⟨q.i,a.2.2.1⟩ ⟨j,hj⟩;refine ⟨n.val,n.isLt,?_⟩;rw[(yej hm n.val a).1.2.1,(cycle8 hm a b n.val).1];exact hn
 obtain ⟨n,h1,h2⟩:=key 13 _ rfl h64;rw[<-ya0]at h2;exact ⟨13+n,by omega,h2⟩
theorem qgz(ht:TOk t)(f:Nat->Int)(h:Int):∀(fuel n:Nat) (p:ě),n<fuel->t.slot (ζ t n p).j=.empty->p.dummy=none->
  ∃m,m<=n/\(∀k,k<m->∃i,t.slot (ζ t k p).j=.live i/\f i≠h)/\
   ((t.slot (ζ t m p).j=.empty/\Ě t f h fuel p=some (.empty (ζ t m p).j none))\/
    ∃i,m<n/\t.slot (ζ t m p).j=.live i/\f i=h/\Ě t f h fuel p=some (.candidate (ζ t m p).j i (ζ t (m+1) p)))
 |0,n,p,hn,_,_=>absurd hn (not_lt_zero _)
 |fuel+1,n,p,hn,he,hd=>by
  cases hs:t.slot p.j with
  |empty=>
   refine ⟨0,ķ _,λk hk=>absurd hk (not_lt_zero _),.inl ⟨hs,?_⟩⟩;unfold Ě;rw[hs];show some (SetTable.Met.empty p.j p.dummy)=_;rw[hd];rfl
  |dummy=>exact absurd hs (yfz ht _)
  |live i=>
   cases n with
   |zero=>
    rw[show (ζ t 0 p).j=p.j from rfl,hs]at he;cases he
   |succ n=>
    by_cases hf:f i=h
    ·refine ⟨0,ķ _,λk hk=>absurd hk (not_lt_zero _),.inr ⟨i,Nat.succ_pos _,hs,hf,?_⟩⟩;unfold Ě;rw[hs];show (if (f i == h)=true then _ else _)=_;rw[if_pos (by rw[hf];exact beq_self_eq_true h)];rfl
    ·obtain ⟨m,h1,h2,h3⟩:=qgz ht f h fuel n (t.advance p) (by omega) he (by rw[ycb];exact hd);have eg:Ě t f h (fuel+1) p=Ě t f h fuel (t.advance p):=by
      conv=>lhs;unfold Ě
      rw[hs];show (if (f i == h)=true then _ else _)=_;rw[if_neg (by simpa using hf)]
     refine ⟨m+1,by omega,λk hk=>?_,?_⟩
     ·cases k with
      |zero=>exact ⟨i,hs,hf⟩
      |succ k=>exact h2 k (by omega)
     ·rw[eg];rcases h3 with ⟨a,b⟩|⟨i',a,b,c,d⟩
      ·exact .inl ⟨a,b⟩
      ·exact .inr ⟨i',by omega,b,c,d⟩
section
variable {P:Ü}{w:ï}{A:Ā}{E:Æ->Ç->Prop}{s:Ç}
theorem ydn(d:Nat){v:Æ}(h:carriedByValue v=true):ofAClassStatement d v=pure false:=by
 cases v with
 |ref a=>exact absurd h (λz=>by unfold carriedByValue at z;cases z)
 |_=>cases d<;>rfl
theorem yce(hk:ħ (Ù P w) s.heap ks a)(h:Q false s):Ë (model P w) A (ofAClassStatement 8 (.ref a)) Q E s:=by
 have hT:=hk.typeIs;obtain ⟨o,items,n,ho,_,hd,hi⟩:=hk;unfold ofAClassStatement;refine À (θ hT ?_);dsimp only;refine À ?_;refine Ã ?_;simp only[Ţ,Ý,if_false];refine À (ē ho hd ?_);refine À ?_;show Ë _ _ (forIn items _ _) _ _ s;rw[<-forIn_toList];refine aB _ (λrest r s'=>r.1=none/\s'=s/\∀v∈rest,carriedByValue v=true) _ ?_ ?_ _ _ ⟨rfl,rfl,hi.byValue⟩
 ·rintro v rest r s' ⟨hr,rfl,hall⟩;rw[ydn _ (hall v Ì)];refine À (Ã ?_);simp only[Ý,if_false];exact Ã ⟨rfl,rfl,λu hu'=>hall u (Ê _ hu')⟩
 ·rintro ⟨r1,r2⟩ s' ⟨hr,rfl,_⟩;simp only at hr;subst hr;exact Ã h
theorem unseen(hx:ħ (Ù P w) s.heap x a)(ys:List Æ)(hy:∀y∈ys,∃k b,y=.ref b/\ħ (Ù P w) s.heap k b)(h:Q false s):Ë (model P w) A (searchCouldBeSeen (.ref a) ys) Q E s:=by
 unfold searchCouldBeSeen;refine À ?_;refine aB _ (λrest r s'=>r.1=none/\s'=s/\∀y∈rest,∃k b,y=.ref b/\ħ (Ù P w) s.heap k b) _ ?_ ?_ _ _ ⟨rfl,rfl,hy⟩
 ·rintro v rest r s' ⟨hr,rfl,hall⟩;obtain ⟨k,b,rfl,hb⟩:=hall v Ì;have nx:∀u∈rest,∃k b,u=.ref b/\ħ (Ù P w) s'.heap k b:=λu hu=>hall u (Ê _ hu);dsimp only;split
  ·exact Ã ⟨rfl,rfl,nx⟩
  ·refine À ((aC (Ù P w)).quiet hx ?_);simp only[Ţ,Ý,if_false];refine À ((aC (Ù P w)).quiet hb ?_);simp only[Ţ,Ý,if_false];refine À (yce hx ?_);simp only[Ý,if_false];refine À (yce hb ?_);simp only[Ý,if_false];exact Ã ⟨rfl,rfl,nx⟩
 ·rintro ⟨r1,r2⟩ s' ⟨hr,rfl,_⟩;simp only at hr;subst hr;exact Ã h
end
theorem yb4{t:ė}{j i:Nat}(h:t.slot j=.live i):t.place[i]?=some j:=by
 unfold SetTable.slot at h;dsimp only at h;split at h
 ·rename_i hb
  cases h;exact Ď hb
 ·split at h<;>cases h
theorem yeb(ht:TOk t){j i:Nat}(h:t.place[i]?=some j):t.slot j=.live i:=by
 have hb:Ö t.place j=i:=qed ht.1 (γ (ĳ.mp h).1) (λk x hk hx=>ht.1 k i x j hk hx h) (λk x hk hx=>by
  rcases Nat.lt_or_eq_of_le hk with z|z
  ·exact γ (ht.1 i k j x z h hx)
  ·rw[<-z,h]at hx;cases hx;exact Ò _)
 unfold SetTable.slot;dsimp only;rw[hb,h,if_pos (beq_self_eq_true _)]
theorem qfc:∀{l m:List Nat},l.Nodup->(∀x∈l,x∈m)->l.length<=m.length
 |[],_,_,_=>ķ _
 |x::l,m,hn,h=>by
  obtain ⟨hx,hl⟩:=bL.mp hn;have:=qfc (m:=m.erase x) hl λy hy=>(List.mem_erase_of_ne (λz:y=x=>hx (z ▸ hy))).mpr (h y (Ê _ hy));rw[List.length_erase_of_mem (h x (Ì ..))]at this;have:=Ι (h x (Ì ..));rw[Ė];omega
theorem ex_empty{t:ė}(ht:TOk t)(hs:t.place.size<=7):∃j,j<8/\t.slot j=.empty:=by
 refine Classical.byContradiction λhn=>?_;have all:∀j∈õ 8,j∈t.place.toList:=λj hj=>by
  cases e:t.slot j with
  |empty=>exact absurd ⟨j,mem_range.mp hj,e⟩ hn
  |dummy=>exact absurd e (yfz ht _)
  |live i=>exact ć (by rw[ğ];exact yb4 e)
 have:=qfc List.nodup_range all;rw[π,ä]at this;omega
structure TabT(P:Ü)(w:ï)(h:Heap)(es:Array (Int×Æ))(t:ė)(qs:List (List Int×Addr)):Prop where
 eqs:es.toList=qs.map λq=>(Ø (Ù P w) q.1,ã q.2)
 at_:∀q∈qs,ħ (Ù P w) h q.1 q.2
 few:qs.length<=4
 fits:t.fits es.size=true
 ok:TOk t
 mask:t.mask=7
 reach:∀(i j:Nat) (q:List Int×Addr),t.place[i]?=some j->qs[i]?=some q->∃m,(ζ t m (t.probeStart (Ø (Ù P w) q.1))).j=j/\∀k,k<m->∃i',t.slot (ζ t k (t.probeStart (Ø (Ù P w) q.1))).j=.live i'
theorem TabT.size(T:TabT P w h es t qs):es.size=qs.length/\t.place.size=qs.length:=by
 have h1:es.size=qs.length:=by have:=congrArg List.length T.eqs;rwa [ä,Ð]at this
 refine ⟨h1,?_⟩;have:=T.fits;unfold SetTable.fits at this;rw[Å]at this;rw[Ď this.1,h1]
theorem TabT.get(T:TabT P w h es t qs){i j:Nat}(e:t.place[i]?=some j):∃q,qs[i]?=some q/\es[i]?=some (Ø (Ù P w) q.1,.ref q.2):=by
 have hi:i<qs.length:=by rw[<-T.size.2];exact (ĳ.mp e).1
 refine ⟨qs[i],Í hi,?_⟩;rw[<-ğ,T.eqs,Ĉ,Í hi];rfl
noncomputable def stH(es:Array (Int×Æ))(i:Nat):Int:=(es[i]?.map (·.1)).getD 0
section
variable {P:Ü}{w:ï}{A:Ā}{E:Æ->Ç->Prop}{s:Ç}{a b:Addr}{o:Obj}{es:Array (Int×Æ)}{ep:Nat}{t:ė}{qs:List (List Int×Addr)}{x:List Int}{Q:SetFound->Ç->Prop}
theorem qhg(h:R true s):Ë (model P w) A (isSame (.ref c) (.ref c)) R E s:=by
 unfold isSame;simp only[beq_self_eq_true,if_true];exact Ã h
theorem searchT(g:s.heap.get? a=some o)(gd:o.data=.set es ep t)(T:TabT P w s.heap es t qs)(hx:ħ (Ù P w) s.heap x b)(hu:A.units<Ž)
  (yes:x∈qs.map (·.1)->Q (.there none) s) (no:∀m,t.slot (ζ t m (t.probeStart (Ø (Ù P w) x))).j=.empty->(∀k,k<m->∃i,t.slot (ζ t k (t.probeStart (Ø (Ù P w) x))).j=.live i)->x∉qs.map (·.1)->Q (.free (ζ t m (t.probeStart (Ø (Ù P w) x))).j false) s) :
  ∀(n fuel c:Nat) (stand:Option ě),stand.getD (t.probeStart (Ø (Ù P w) x))=ζ t c (t.probeStart (Ø (Ù P w) x))->t.slot (ζ t (c+n) (t.probeStart (Ø (Ù P w) x))).j=.empty->n<21->n<fuel->
   (∀k,k<c->∃i q,t.slot (ζ t k (t.probeStart (Ø (Ù P w) x))).j=.live i/\qs[i]?=some q/\q.1≠x)->Ë (model P w) A (setSearchFrom a (.ref b) (Ø (Ù P w) x) true fuel stand) Q E s:=by
 intro n;induction n using Nat.strongRecOn with
 |ind n ih=>
  intro fuel c stand hst hemp hn hf hold;obtain ⟨fuel,rfl⟩:∃f,fuel=f+1:=⟨fuel-1,by omega⟩;generalize hS:t.probeStart (Ø (Ù P w) x)=S at *;unfold setSearchFrom;refine À (Ĭ g gd T.fits ?_);dsimp only;rw[show t.gaveWay=false by unfold SetTable.gaveWay;rw[T.mask];rfl];simp only[Ý,if_false];rw[hS,hst];have hdm:(ζ t c S).dummy=none:=by
   rw[<-hS];exact (yej T.mask c (start8 T.mask _).1).1.2.2.2
  obtain ⟨m,hm,hlt,hcase⟩:=qgz T.ok (stH es) (Ø (Ù P w) x) (10*SetTable.turns t.mask) n (ζ t c S) (by unfold SetTable.turns;omega) (by rw[<-ya0];exact hemp) hdm;rw[<-ya0]at hcase;have hsh:∀{i j q},t.place[i]?=some j->qs[i]?=some q->stH es i=Ø (Ù P w) q.1:=λ{i j q} e1 e2=>by
   obtain ⟨q',h1,h2⟩:=T.get e1;rw[e2]at h1;cases h1;unfold stH;rw[h2];rfl
  rcases hcase with ⟨he,hgo⟩|⟨i,hmn,hl,hfi,hgo⟩
  ·erw [show t.probe (stH es) (Ø (Ù P w) x) (ζ t c S)=_ from hgo]
   dsimp only;have hlive:∀k,k<c+m->∃i q,t.slot (ζ t k S).j=.live i/\qs[i]?=some q/\q.1≠x:=λk hk=>by
    by_cases hkc:k<c
    ·exact hold k hkc
    ·obtain ⟨i,e1,e2⟩:=hlt (k-c) (by omega);rw[<-ya0,show c+(k-c)=k by omega]at e1;obtain ⟨q,h1,_⟩:=T.get (yb4 e1);exact ⟨i,q,e1,h1,λz=>e2 (by rw[hsh (yb4 e1) h1,z])⟩
   refine Ã (no (c+m) he (λk hk=>let ⟨i,_,e,_⟩:=hlive k hk;⟨i,e⟩) λhin=>?_);obtain ⟨q,hq,eqx⟩:=Ō.mp hin;obtain ⟨i,hi⟩:=Κ hq;have hil:i<t.place.size:=by rw[T.size.2];exact (É.mp hi).1
   obtain ⟨m',hj,hl'⟩:=T.reach i _ q (ç hil) hi;rw[eqx,hS]at hj hl';rcases Nat.lt_trichotomy m' (c+m) with z|z|z
   ·obtain ⟨i2,q2,e1,e2,e3⟩:=hlive m' z;rw[hj,yeb T.ok (ç hil)]at e1;cases e1;rw[hi]at e2;cases e2;exact e3 eqx
   ·rw[<-z,hj,yeb T.ok (ç hil)]at he;cases he
   ·obtain ⟨i2,e⟩:=hl' _ z;rw[he]at e;cases e
  ·erw [show t.probe (stH es) (Ø (Ù P w) x) (ζ t c S)=_ from hgo]
   dsimp only;obtain ⟨q,hq,hes⟩:=T.get (yb4 hl);have hqm:q∈qs:=ć hq;have hall:∀y∈(es.filter (·.1 == Ø (Ù P w) x)).toList.map (·.2),∃k b,y=.ref b/\ħ (Ù P w) s.heap k b:=λy hy=>by
    obtain ⟨e,he,rfl⟩:=Ō.mp hy;rw[Array.toList_filter]at he;have:=(mem_filter.mp he).1;rw[T.eqs]at this;obtain ⟨q',h1,rfl⟩:=Ō.mp this;exact ⟨_,_,rfl,T.at_ q' h1⟩
   have cont:Ë (model P w) A (do
     let some (_,y):=es[i]?|unsupported "internal:set-entry"
     let equal <-holding [y] (eqBool y (.ref b));let (es',_,t') <-setState a
     if true&&equal then return .there none
     let some same:=t'.sameMemory t.moves t.mask|unsupported "set.changed-during-lookup:is-the-new-block-at-the-old-address"
     let still <-match (if same then t'.slot (ζ t (c+m) S).j else .empty) with
      |.live i'=>match es'[i']? with
       |some (_,y')=>do pure (if <-isSame y' y then some i' else none)
       |none=>pure none
      |_=>pure none
     match still with
     |none=>rule "set.search.anew";setSearchFrom a (.ref b) (Ø (Ù P w) x) true fuel none
     |some i'=>if equal then return .there (some i') else setSearchFrom a (.ref b) (Ø (Ù P w) x) true fuel (some (ζ t (m+1) (ζ t c S)))) Q E s:=by
    rw[hes];dsimp only;refine À (î ((aC (Ù P w)).eqBool hu (T.at_ q hqm) hx ?_));refine À (Ĭ g gd T.fits ?_);dsimp only;by_cases hqx:q.1=x
    ·rw[decide_eq_true hqx];exact Ã (yes (mem_map.mpr ⟨q,hqm,hqx⟩))
    ·rw[decide_eq_false hqx];rw[show t.sameMemory t.moves t.mask=some true by unfold SetTable.sameMemory;rw[if_pos (beq_self_eq_true _)]];simp only[Bool.and_false,Ý,if_false,if_true];rw[hl];dsimp only;rw[hes];dsimp only;refine À (qhg ?_);rw[if_pos rfl];refine À (Ã ?_);dsimp only;refine ih (n-m-1) (by omega) fuel (c+m+1) _ ?_ (by rw[show c+m+1+(n-m-1)=c+n by omega];exact hemp) (by omega) (by omega) λk hk=>?_
     ·show ζ t (m+1) (ζ t c S)=_;rw[<-ya0];rfl
     ·by_cases hkc:k<c
      ·exact hold k hkc
      ·by_cases hkm:k=c+m
       ·rw[hkm];exact ⟨i,q,hl,hq,hqx⟩
       ·obtain ⟨i2,e1,e2⟩:=hlt (k-c) (by omega);rw[<-ya0,show c+(k-c)=k by omega]at e1;obtain ⟨q2,h1,_⟩:=T.get (yb4 e1);exact ⟨i2,q2,e1,h1,λz=>e2 (by rw[hsh (yb4 e1) h1,z])⟩
   cases hled:t.led with
   |true=>
    simp only[Ţ,Ý,if_false];exact cont
   |false=>
    simp only[Bool.not_false,if_true];refine À (unseen hx _ hall ?_);simp only[Ý,if_false];exact cont
end
theorem ydo(h:t'.mask=t.mask):∀(n:Nat) (p:ě),ζ t' n p=ζ t n p
 |0,p=>rfl
 |n+1,p=>by
  have e:t'.advance p=t.advance p:=by unfold SetTable.advance;rw[h]
  show ζ t' n (t'.advance p)=ζ t n (t.advance p);rw[e];exact ydo h n _
theorem yhr{t t':ė}(h:t'.mask=t.mask)(z:Int):t'.probeStart z=t.probeStart z:=by
 unfold SetTable.probeStart;rw[h]
theorem qa7(xs:Array α)(p:Nat)(x:α):(ø xs p x).toList=xs.toList.take p++[x]++xs.toList.drop p:=by
 unfold ø;rw[Array.toList_append,Array.toList_push,Array.toList_extract,Array.toList_extract];simp[List.extract_eq_drop_take];exact List.take_of_length_le (by simp)
section
variable {P:Ü}{w:ï}{h h':Heap}{es:Array (Int×Æ)}{t:ė}{qs:List (List Int×Addr)}{x:List Int}{b:Addr}
noncomputable def yez(t:ė)(qs:List (List Int×Addr))(j:Nat)(q:List Int×Addr):List (List Int×Addr):=qs.take (t.put j).2++[q]++qs.drop (t.put j).2
theorem TabT.put(T:TabT P w h es t qs)(hx:ħ (Ù P w) h' x b)(hk:∀q∈qs,ħ (Ù P w) h' q.1 q.2)(h3:qs.length<=3){m:Nat}{pl:Bool}
  (he:t.slot (ζ t m (t.probeStart (Ø (Ù P w) x))).j=.empty) (hl:∀k,k<m->∃i,t.slot (ζ t k (t.probeStart (Ø (Ù P w) x))).j=.live i) :
  TabT P w h' (ø es (t.put (ζ t m (t.probeStart (Ø (Ù P w) x))).j).2 (Ø (Ù P w) x,.ref b)) { (t.put (ζ t m (t.probeStart (Ø (Ù P w) x))).j).1 with plain:=pl }
   (yez t qs (ζ t m (t.probeStart (Ø (Ù P w) x))).j (x,b)):=by
 generalize hS:t.probeStart (Ø (Ù P w) x)=S at *;generalize hj:(ζ t m S).j=j at *;have hp:(t.put j).2=Ö t.place j:=rfl;have hpl:(t.put j).1.place=ø t.place (Ö t.place j) j:=rfl;have hle:Ö t.place j<=t.place.size:=(yev j T.ok.1).2.2;have hok:TOk { (t.put j).1 with plain:=pl }:=(put_ok T.ok he).1;have sz:=T.size;have hm:({ (t.put j).1 with plain:=pl }:ė).mask=t.mask:=rfl;have keep:∀{y:Nat},(∃i,t.slot y=.live i)->∃i,({ (t.put j).1 with plain:=pl }:ė).slot y=.live i:=λ{y} ⟨i,e⟩=>by
  have e':=yb4 e;by_cases hi:i<Ö t.place j
  ·exact ⟨i,yeb hok (by show (ø t.place (Ö t.place j) j)[i]?=_;rw[qa2 _ _ _ hle,if_pos hi];exact e')⟩
  ·exact ⟨i+1,yeb hok (by show (ø t.place (Ö t.place j) j)[i+1]?=_;rw[qa2 _ _ _ hle,if_neg (by omega),if_neg (by omega)];exact e')⟩
 have qget:∀i,(yez t qs j (x,b))[i]?=if i<Ö t.place j then qs[i]? else if i=Ö t.place j then some (x,b) else qs[i-1]?:=λi=>by
  have:=qa2 qs.toArray (Ö t.place j) (x,b) (by rw[Ú,<-sz.2];exact hle) i;rw[<-ğ,qa7]at this;unfold yez;rw[hp]
  simpa using this
 have psz:(ø t.place (Ö t.place j) j).size=qs.length+1:=by
  rw[<-ä,qa7];simp;omega
 have esz:(ø es (Ö t.place j) (Ø (Ù P w) x,ã b)).size=qs.length+1:=by
  rw[<-ä,qa7];simp;omega
 refine ⟨?_,λq hq=>?_,?_,?_,hok,T.mask,λi j' q e1 e2=>?_⟩
 ·rw[hp,qa7,T.eqs];unfold yez;rw[hp];simp[map_take,List.map_drop]
 ·unfold yez at hq;simp only[mem_append,ê]at hq;rcases hq with (z|z)|z
  ·exact hk q (List.mem_of_mem_take z)
  ·rw[z];exact hx
  ·exact hk q (am z)
 ·unfold yez;simp;omega
 ·unfold SetTable.fits SetTable.fill;rw[Å];refine ⟨?_,?_⟩
  ·show ((ø t.place (Ö t.place j) j).size == _)=true;rw[hp,psz,esz];exact beq_self_eq_true _
  ·refine decide_eq_true ?_;show (ø t.place (Ö t.place j) j).size+({ (t.put j).1 with plain:=pl }:ė).dummies.size<=t.mask;rw[psz,hok.2,T.mask];show qs.length+1+0<=7;omega
 ·rw[yhr hm];simp only[ydo hm];have e1':(ø t.place (Ö t.place j) j)[i]?=some j':=e1;rw[qa2 _ _ _ hle]at e1';rw[qget]at e2;by_cases h1:i<Ö t.place j
  ·rw[if_pos h1]at e1' e2;obtain ⟨m',r1,r2⟩:=T.reach i j' q e1' e2;exact ⟨m',r1,λk hk'=>keep (r2 k hk')⟩
  ·rw[if_neg h1]at e1' e2;by_cases h2:i=Ö t.place j
   ·rw[if_pos h2]at e1' e2;cases e1';cases e2;rw[hS];exact ⟨m,hj,λk hk'=>keep (hl k hk')⟩
   ·rw[if_neg h2]at e1' e2;obtain ⟨m',r1,r2⟩:=T.reach (i-1) j' q e1' e2;exact ⟨m',r1,λk hk'=>keep (r2 k hk')⟩
end
noncomputable def SetT(P:Ü)(w:ï)(Z:List Int×Addr->Prop)(h:Heap)(a:Addr)(ks:List (List Int)):Prop:=
 ∃o es ep t qs,h.get? a=some o/\o.ExactSet/\o.data=.set es ep t/\TabT P w h es t qs/\(qs.map (·.1)).Perm ks/\ks.Nodup/\(byTx w=true\/t.led=true)/\∀q∈qs,Z q
section
variable {P:Ü}{w:ï}{A:Ā}{E:Æ->Ç->Prop}{s:Ç}{a b:Addr}{ks:List (List Int)}{x:List Int}{Z:List Int×Addr->Prop}
theorem qgd(hk:ħ (Ù P w) s.heap x b)(h:Q true s):Ë (model P w) A (hashByValue 8 (.ref b)) Q E s:=by
 have hT:=hk.typeIs;obtain ⟨o,items,n,ho,_,hd,hi⟩:=hk;have hint:∀{ks:List Int}{vs:List Æ},PySem.ItemsAre (Ù P w) ks vs->∀v∈vs,∃k t,v=.int k t:=λ{ks vs} hi=>by
  induction hi with
  |nil=>intro v hv;cases hv
  |cons hk _ ih=>
   intro v hv;rcases ñ.mp hv with rfl|z
   ·obtain ⟨t,rfl⟩:=Value.isInt_shape hk;exact ⟨_,t,rfl⟩
   ·exact ih v z
 unfold hashByValue;refine À (Ů hT F.slot_tuple_hash.lookup ?_);dsimp only;refine À (ē ho hd ?_);refine À ?_;show Ë _ _ (forIn items _ _) _ _ s;rw[<-forIn_toList];refine aB _ (λrest r s'=>r.1=none/\s'=s/\∀v∈rest,∃k t,v=.int k t) _ ?_ ?_ _ _ ⟨rfl,rfl,hint hi⟩
 ·rintro v rest r s' ⟨hr,rfl,hall⟩;obtain ⟨k,t,rfl⟩:=hall v Ì;rw[show hashByValue 7 (.int k t)=pure true from rfl];refine À (Ã ?_);simp only[Ţ,Ý,if_false];exact Ã ⟨rfl,rfl,λu hu'=>hall u (Ê _ hu')⟩
 ·rintro ⟨r1,r2⟩ s' ⟨hr,rfl,_⟩;simp only at hr;subst hr;exact Ã h
theorem yep{es ep t}{k:List Int}{q:Addr}(x:ħ (Ù P w) h k q)(ho:h.get? a=some o)(hd:o.data=.set es ep t)(hs:ü a h h'):ħ (Ù P w) h' k q:=by
 obtain ⟨o',items,n,g,c,d,i⟩:=x;have hne:q≠a:=λz=>by
  rw[z,ho]at g;cases g;rw[hd]at d;cases d
 exact ⟨o',items,n,by rw[hs.2 q hne];exact g,c,d,i⟩
theorem addT(hS:SetT P w Z s.heap a ks)(hz:Z (x,b))(hx:ħ (Ù P w) s.heap x b)(hu:A.units<Ž)(hroom:x∉ks->ks.length<=3)
  (h:∀r h',ü a s.heap h'->SetT P w Z h' a (if x∈ks then ks else ks++[x])->Q r { s with heap:=h' }) :
  Ë (model P w) A (setAddHashed a (.ref b) (Ø (Ù P w) x)) Q E s:=by
 obtain ⟨o,es,ep,t,qs,g,gx,gd,T,hp,hnd,hl,hZ⟩:=id hS;have hq4:qs.length<=4:=T.few;have es0:s={ s with heap:=s.heap }:=by cases s;rfl
 unfold setAddHashed;refine î ?_;unfold setAddHashedIn;refine À (Ĭ g gd T.fits ?_);dsimp only;rw[show byScan (.ref b) es=false from rfl];simp only[Ý,if_false];obtain ⟨j,hj,hje⟩:=ex_empty T.ok (by rw[T.size.2];omega);obtain ⟨st1,st2⟩:=start8 T.mask (Ø (Ù P w) x);obtain ⟨n,hn,hnj⟩:=meets8 T.mask st1 (Nat.lt_trans st2 (by decide +kernel)) hj;refine À ?_;unfold setSearch;refine searchT g gd T hx hu (λhin=>?_) (λm he hlv hout=>?_) n 100000 0 none rfl (by rw[Nat.zero_add,hnj];exact hje) hn (by omega) (λk hk=>absurd hk (not_lt_zero _))
 ·refine Ã ?_;rw[es0];exact h false s.heap (Heap.SameBut.refl a s.heap) (by rw[if_pos (hp.mem_iff.mp hin)];exact hS)
 ·have hout':x∉ks:=λz=>hout (hp.mem_iff.mpr z);have hql:qs.length<=3:=by have:=hp.length_eq;have:=hroom hout';rw[Ð]at *;omega
  rw[if_neg hout']at h;dsimp only;refine À (Ĭ g gd T.fits ?_);dsimp only;have tail:∀pl:Bool,Ë (model P w) A (do
    storeSet a (ø es (t.put (ζ t m (t.probeStart (Ø (Ù P w) x))).j).2 (Ø (Ù P w) x,.ref b)) { (t.put (ζ t m (t.probeStart (Ø (Ù P w) x))).j).1 with plain:=pl }
    if (!false&&({ (t.put (ζ t m (t.probeStart (Ø (Ù P w) x))).j).1 with plain:=pl }:ė).tooFull)=true then do
     setRelay a (Ŗ (es.size+1))
     return true
    else return true) Q E s:=λpl=>by
   have sb:=ę s.heap a (Obj.putSet (ø es (t.put (ζ t m (t.probeStart (Ø (Ù P w) x))).j).2 (Ø (Ù P w) x,.ref b)) { (t.put (ζ t m (t.probeStart (Ø (Ù P w) x))).j).1 with plain:=pl });have T':=T.put (pl:=pl) (yep hx g gd sb) (λq hq=>yep (T.at_ q hq) g gd sb) hql he hlv;have hq4:=T'.few;have hs4:=T'.size;refine À (wpAny_storeSet_of g gd ?_ (by rw[hs4.1];exact Ğ hq4 (by decide)));rw[if_neg ?_]
   ·have z:=Ő (Obj.putSet (ø es (t.put (ζ t m (t.probeStart (Ø (Ù P w) x))).j).2 (Ø (Ù P w) x,.ref b)) { (t.put (ζ t m (t.probeStart (Ø (Ù P w) x))).j).1 with plain:=pl }) g (by rw[putSet_of _ _ gd];rfl);rw[putSet_of _ _ gd]at z;have hpm:((yez t qs (ζ t m (t.probeStart (Ø (Ù P w) x))).j (x,b)).map (·.1)).Perm (ks++[x]):=by
     unfold yez;generalize (t.put (ζ t m (t.probeStart (Ø (Ù P w) x))).j).2=p;rw[ň,ň,map_take,List.map_drop];refine List.Perm.trans ?_ (hp.append_right [x]);refine (List.perm_append_comm.append_right _).trans ?_;rw[ō,List.take_append_drop];exact List.perm_append_comm
    refine Ã (h true _ sb ⟨_,_,_,_,_,z,gx,rfl,T',hpm,?_,hl.imp id λz=>z,λq hq=>?_⟩)
    rotate_left
    ·unfold yez at hq;simp only[mem_append,ê]at hq;rcases hq with (z|z)|z
     ·exact hZ q (List.mem_of_mem_take z)
     ·rw[z];exact hz
     ·exact hZ q (am z)
    refine nodup_append.mpr ⟨hnd,nodup_cons.mpr ⟨by simp,nodup_nil⟩,λy hy z' hz'=>?_⟩;rw[ê.mp hz'];exact λe=>hout' (e ▸ hy)
   ·unfold SetTable.tooFull SetTable.fill;rw[T'.ok.2,hs4.2,T'.mask];simp;omega
  split
  ·refine À (qgd hx ?_);simp only[if_true];exact tail (t.put (ζ t m (t.probeStart (Ø (Ù P w) x))).j).1.plain
  ·refine À (Ã ?_);simp only[if_true];exact tail (t.put (ζ t m (t.probeStart (Ø (Ù P w) x))).j).1.plain
end
noncomputable def cu(f:Nat->List Int):Nat->List (List Int)
 |0=>[]
 |i+1=>if f i∈cu f i then cu f i else cu f i++[f i]
theorem TabT.at(T:TabT P w h es t qs)(k:∀q∈qs,ħ (Ù P w) h' q.1 q.2):TabT P w h' es t qs:=⟨T.eqs,k,T.few,T.fits,T.ok,T.mask,T.reach⟩
theorem SetT.at(x:SetT P w Z h a ks)(k:∀b o,(b=a\/∃items n,o.data=.seq items n)->h.get? b=some o->h'.get? b=some o):SetT P w Z h' a ks:=by
 obtain ⟨o,es,ep,t,qs,g,gx,gd,T,r⟩:=x;refine ⟨o,es,ep,t,qs,k a o (.inl rfl) g,gx,gd,T.at λq hq=>?_,r⟩;obtain ⟨o',items,n,g',c,d,i⟩:=T.at_ q hq;exact ⟨o',items,n,k _ _ (.inr ⟨_,_,d⟩) g',c,d,i⟩
section
variable {P:Ü}{w:ï}{A:Ā}{E:Æ->Ç->Prop}{s:Ç}
theorem SetT.new(g:h.get? a=some { cls:=.type "set",dict:=none,data:=.set #[] 0 (.fresh 0 0 (!byTx w)) }):SetT P w Z h a []:=by
 refine ⟨_,#[],0,_,[],g,⟨rfl,rfl,rfl⟩,rfl,⟨rfl,λq hq=>by simp at hq,by decide,rfl,⟨λi j x y _ hx=>by simp[SetTable.fresh]at hx,rfl⟩,rfl,λi j q e=>by simp[SetTable.fresh]at e⟩,ς _,nodup_nil,?_,λq hq=>by simp at hq⟩;cases byTx w
 ·exact .inr rfl
 ·exact .inl rfl
theorem qj1{l:Addr}{its:Array Æ}{f:Nat->List Int}{ad:Nat->Addr}{Z:List Int×Addr->Prop}{Q:Æ->Ç->Prop}(hh:A.handled=none)(hl:s.heap.IsList l its)(hz:∀i,i<its.size->Z (f i,ad i))(hi:∀(i:Nat) (v:Æ),its[i]?=some v->v=ã (ad i))(hkT:∀i,i<its.size->ħ (Ù P w) s.heap (f i) (ad i))(hb:∀i,i<its.size->f i∉cu f i->(cu f i).length<=3)(hu:A.units+10<Ž)
  (k:∀(h':Heap) (tk:Nat),SetT P w Z h' s.heap.objs.size (cu f its.size)->(∀b o,b<s.heap.objs.size->s.heap.get? b=some o->h'.get? b=some o)->Q (.ref s.heap.objs.size) { s with heap:=h',toks:=tk }) :
  Ë (model P w) A (call (.type "set") [.ref l]) Q E s:=
 qe8 hh hl (λi h=>SetT P w Z h s.heap.objs.size (cu f i)/\∀j,j<its.size->ħ (Ù P w) h (f j) (ad j)) (λh g kp=>⟨SetT.new g,λj hj=>by
  obtain ⟨o',items,q,g',r⟩:=hkT j hj;exact ⟨o',items,q,kp _ _ g',r⟩⟩) (λi h h' ⟨x,y⟩ kp=>⟨x.at kp,λj hj=>by
  obtain ⟨o',items,q,g',c,dd,ii⟩:=y j hj;exact ⟨o',items,q,kp _ _ (.inr ⟨_,_,dd⟩) g',c,dd,ii⟩⟩) (λB i v s' Q E hB hv hlt ⟨hS,hT⟩ kk=>by
  obtain rfl:=hi i v hv;have hu':B.units<Ž:=by rw[hB];omega
  unfold setAdd;refine î (À ((aC (Ù P w)).pyHash hu' (hT i hlt) ?_));obtain ⟨od,esd,epd,td,qsd,gd1,_,gd2,_⟩:=id hS;exact addT (s:={ s' with toks:=s'.toks+((f i).length+1) }) hS (hz i hlt) (hT i hlt) hu' (hb i hlt) λb h' sb S2=>kk b h' _ (aj _ _) sb ⟨S2,λj hj=>yep (hT j hj) gd1 gd2 sb⟩) λh' tk x kp=>k h' tk x.1 kp
end
theorem SetT.v(x:SetT P w Z h a ks):∃qs:List (List Int×Addr),SetV P w h a (qs.map λq=>.ref q.2)/\(∀q∈qs,ħ (Ù P w) h q.1 q.2)/\(qs.map (·.1)).Perm ks/\ks.Nodup/\∀q∈qs,Z q:=by
 obtain ⟨o,es,ep,t,qs,g,gx,gd,T,hp,hn,hl,hZ⟩:=x;refine ⟨qs,⟨o,es,ep,t,g,gx,gd,by rw[T.eqs,ŷ];exact ς _,?_,T.fits,T.ok,hl⟩,T.at_,hp,hn,hZ⟩;have:=T.few;rw[T.size.1];exact ž this (by decide)
end L2
namespace L2
open PySem PySem.Spec PyProof.Rows PySem.W
theorem qdb:∀{vs:List Æ}{ns:List Int},Ļ vs ns->PySem.ItemsAre (Ù P w) ns vs
 |[],[],.nil=>.nil
 |_,_,.cons n t r=>.cons (by show Value.isInt n (.int n t)=true;simp[Value.isInt]) (qdb r)
theorem TIs.key(x:TIs h ts){t:TL}(ht:t∈ts):ħ (Ù P w) h t.2 t.1:=by
 obtain ⟨o,us,n,e1,e2,e3,e4⟩:=x t ht;exact ⟨o,us.toArray,n,e1,e2,e3,by simpa using qdb e4⟩
theorem qco(f:Nat->List Int)(k:List Int):∀n,k∈cu f n↔∃i,i<n/\f i=k
 |0=>by
  unfold cu;constructor
  ·intro h;simp at h
  ·rintro ⟨i,h,_⟩;omega
 |n+1=>by
  have ih:=qco f k n;have e:k∈cu f (n+1)↔k∈cu f n\/k=f n:=by
   show k∈(if f n∈cu f n then cu f n else cu f n++[f n])↔_;split
   ·rename_i h
    exact ⟨.inl,λz=>z.elim id λz=>z ▸ h⟩
   ·rw[mem_append,ê]
  rw[e,ih];constructor
  ·rintro (⟨i,h,z⟩|z)
   ·exact ⟨i,by omega,z⟩
   ·exact ⟨n,by omega,z.symm⟩
  ·rintro ⟨i,h,z⟩;by_cases hi:i=n
   ·subst hi;exact .inr z.symm
   ·exact .inl ⟨i,by omega,z⟩
noncomputable def qf3(P:Ü)(w:ï)(a:Addr)(us:List TL):HO:=.ext λh=>SetV P w h a (cr us)
section
variable {X:Cx}
theorem ybr(f:Nat->List Int):∀i,(cu f i).Nodup
 |0=>nodup_nil
 |i+1=>by
  unfold cu;split
  ·exact ybr f i
  ·rename_i h
   refine nodup_append.mpr ⟨ybr f i,nodup_cons.mpr ⟨by simp,nodup_nil⟩,λy hy z hz=>?_⟩;rw[ê.mp hz];exact λe=>h (e ▸ hy)
theorem ydw:∀{l m:List (List Int)},l.Nodup->(∀x∈l,x∈m)->l.length<=m.length
 |[],_,_,_=>ķ _
 |x::l,m,hn,h=>by
  obtain ⟨hx,hl⟩:=bL.mp hn;have:=ydw (m:=m.erase x) hl λy hy=>(List.mem_erase_of_ne (λz:y=x=>hx (z ▸ hy))).mpr (h y (Ê _ hy));rw[List.length_erase_of_mem (h x (Ì ..))]at this;have:=Ι (h x (Ì ..));rw[Ė];omega
theorem qhl{f:Nat->List Int}{ks:List (List Int)}{n i:Nat}(h4:ks.length<=4)(hk:∀j,j<n->f j∈ks)(hi:i<n)(ho:f i∉cu f i):(cu f i).length<=3:=by
 have e:cu f (i+1)=cu f i++[f i]:=by
  conv=>lhs;unfold cu
  exact if_neg ho
 have:=ydw (ybr f (i+1)) (m:=ks) λx hx=>by
  obtain ⟨j,hj,rfl⟩:=(qco _ _ _).mp hx;exact hk j (by omega)
 rw[e,Ó,List.length_singleton]at this;omega
theorem yfc:∀{vs:List Æ}{us:List TL},vs.Perm (cr us)->∃ts:List TL,vs=cr ts/\ts.Perm us:=by
 have key:∀{l1 l2:List Æ},l1.Perm l2->∀us:List TL,l2=cr us->∃ts:List TL,l1=cr ts/\ts.Perm us:=by
  intro l1 l2 h;induction h with
  |nil=>intro us e;cases us with
   |nil=>exact ⟨[],rfl,.refl _⟩
   |cons a b=>simp[cr]at e
  |cons x _ ih=>intro us e;cases us with
   |nil=>simp[cr]at e
   |cons a b=>
    simp only[cr,þ,Ś]at e;obtain ⟨ts,e1,e2⟩:=ih b e.2;exact ⟨a::ts,by rw[e.1,e1];rfl,e2.cons a⟩
  |swap x y l=>intro us e;cases us with
   |nil=>simp[cr]at e
   |cons a b=>cases b with
    |nil=>simp[cr]at e
    |cons b c=>
     simp only[cr,þ,Ś]at e;exact ⟨b::a::c,by rw[e.1,e.2.1,e.2.2];rfl,List.Perm.swap _ _ _⟩
  |trans _ _ ih1 ih2=>
   intro us e;obtain ⟨ts2,e2,p2⟩:=ih2 us e;obtain ⟨ts1,e1,p1⟩:=ih1 ts2 e2;exact ⟨ts1,e1,p1.trans p2⟩
 intro vs us h;exact key h _ rfl
end
end L2
namespace Dp
open PySem L2 PyProof.Rows Mx
structure Kc where
 K:Þ
 P:Ü
 w:ï
 mg:Str->Option Æ
noncomputable abbrev kcOf(X:Cx):Kc:=⟨X.K,X.prog,X.w,X.mg⟩
end Dp
noncomputable abbrev L2.Cx.kc(X:L2.Cx):Dp.Kc:=Dp.kcOf X
namespace Dp
open PySem L2 PyProof.Rows Mx
mutual
inductive Dt(K:Kc)(H:Hp):V->Â->Prop
 |non:Dt K H .non .none
 |bl (b:Bool):Dt K H (.bl b) (.bool b)
 |int (i:Int):Dt K H (.int i) (.int i)
 |str (x:Str):Dt K H (.str x) (.str x)
 |lst {a:Addr}{vs:List V}{ds:List Â}:H a=some (.lst vs)->DtA K H vs ds->Dt K H (.ref a) (.list ds)
 |tup {a:Addr}{vs:List V}{ds:List Â}:SqT K.K H a vs->DtA K H vs ds->Dt K H (.ref a) (.tuple ds)
inductive DtA(K:Kc)(H:Hp):List V->List Â->Prop
 |nil:DtA K H [] []
 |cons {v:V}{d:Â}{vs:List V}{ds:List Â}:Dt K H v d->DtA K H vs ds->DtA K H (v::vs) (d::ds)
end
theorem SqL.same'{K:Þ}{H H':Hp}{a:Addr}{xs:List V}(s:Same H H')(h:SqL K H a xs):SqL K H' a xs:=by
 rcases h with h|h
 ·rcases h with h|⟨o,h⟩
  ·exact .inl (.inl (s _ _ h))
  ·exact .inl (.inr ⟨o,s _ _ h⟩)
 ·exact .inr h
theorem Rd.same'(s:Same H H')(h:Rd H a u):Rd H' a u:=h.elim (λh=>.inl (s _ _ h)) λ⟨o,h⟩=>.inr ⟨o,s _ _ h⟩
mutual
theorem Dt.same{K:Kc}{H H':Hp}(s:Same H H'):∀{v:V}{d:Â},Dt K H v d->Dt K H' v d
 |_,_,.non=>.non
 |_,_,.bl b=>.bl b
 |_,_,.int i=>.int i
 |_,_,.str x=>.str x
 |_,_,.lst e t=>.lst (s _ _ e) (DtA.same s t)
 |_,_,.tup e t=>.tup (SqT.same s e) (DtA.same s t)
theorem DtA.same{K:Kc}{H H':Hp}(s:Same H H'):∀{vs:List V}{ds:List Â},DtA K H vs ds->DtA K H' vs ds
 |_,_,.nil=>.nil
 |_,_,.cons a b=>.cons (Dt.same s a) (DtA.same s b)
end
section
variable {X:Cx}{pins:List (Addr×Obj)}{σ:L2.St}{H:Hp}{s:Ç}
mutual
theorem Dt.reads(I:Inv X pins σ H s):∀{v:V}{d:Â}{u:Æ},Dt X.kc H v d->RelV v u->∃as,Reads s.heap u d as
 |_,_,_,.non,r=>by cases r;exact ⟨_,.none⟩
 |_,_,_,.bl b,r=>by cases r;exact ⟨_,.bool b⟩
 |_,_,_,.int i,r=>by obtain ⟨t,rfl⟩:=r;exact ⟨_,.int i t⟩
 |_,_,_,.str x,r=>by obtain ⟨t,rfl⟩:=r;exact ⟨_,.str x t⟩
 |_,_,_,.lst e t,r=>by
  cases r;obtain ⟨its,rv,⟨o,n,ho,hc,hx,hd⟩,_⟩:=I.list (cp e);obtain ⟨as,q⟩:=DtA.reads I t rv;exact ⟨_,.list ho hc hd (by simpa using q)⟩
 |_,_,_,.tup e t,r=>by
  cases r;obtain ⟨its,rv,⟨o,ho,hc,n,hd⟩,_⟩:=I.tuple e;obtain ⟨as,q⟩:=DtA.reads I t rv;exact ⟨_,.tuple ho hc hd (by simpa using q)⟩
theorem DtA.reads(I:Inv X pins σ H s):∀{vs:List V}{ds:List Â}{us:List Æ},DtA X.kc H vs ds->Vals vs us->∃as,ReadsAll s.heap us ds as
 |_,_,_,.nil,.nil=>⟨_,.nil⟩
 |_,_,_,.cons a b,.cons r t=>by
  obtain ⟨as,q⟩:=Dt.reads I a r;obtain ⟨bs,q2⟩:=DtA.reads I b t;exact ⟨_,.cons q q2⟩
end
end
inductive DV where
 |d (x:Â)
 |r (i:Nat)
inductive OD where
 |lst (es:List DV)
 |frz (es:List DV)
 |scr (es:List DV)
 |dk (ps:List (Â×DV))
 |dt (ps:List (Â×DV))
 |ins (c:Str) (fs:List (Str×DV))
noncomputable def OD.isDead:OD->Bool
 |.frz _=>true
 |.scr _=>true
 |_=>false
noncomputable abbrev OS:=List OD
noncomputable abbrev DEnv:=List (Option DV)
structure Wd where
 φ:List Addr
 S:OS
 H:Hp
noncomputable def Wd.Lv(x:Wd)(b:Addr):Prop:=∃(i:Nat) (o:OD),x.φ[i]?=some b/\x.S[i]?=some o/\o.isDead=false
open Classical in
noncomputable def hide(p:Addr->Prop)(H:Hp):Hp:=λb=>if p b then none else H b
theorem bJ:Same (hide p H) H:=λb u e=>by
 unfold hide at e;split at e
 ·cases e
 ·exact e
theorem yas(k:∀b u,¬ p b->H b=some u->H' b=some u/\¬ p' b):Same (hide p H) (hide p' H'):=λb u e=>by
 unfold hide at e ⊢;split at e
 ·cases e
 ·rename_i h
  obtain ⟨h1,h2⟩:=k b u h e;rw[if_neg h2];exact h1
theorem qce(h:¬ p b):hide p H b=H b:=by unfold hide;rw[if_neg h]
noncomputable def Wd.hp(L:Addr->Prop)(x:Wd):Hp:=hide (λb=>L b\/x.Lv b) x.H
noncomputable def kD:Key->Â
 |.inl i=>.int i
 |.inr z=>.str z
structure TKey(K:Kc)(H:Hp)(k:Â)(b:Addr):Prop where
 at_:Dt K H (.ref b) k
 key:ŧ k=true
 dp:k.depth<=6
noncomputable abbrev Es:=List (Â×Addr×V)
section
variable (K:Kc) (L:Addr->Prop)
noncomputable def Hv(x:Wd)(v:V):DV->Prop
 |.d y=>Dt K (x.hp L) v y
 |.r i=>∃a,x.φ[i]?=some a/\v=.ref a
inductive HvA(x:Wd):List V->List DV->Prop
 |nil:HvA x [] []
 |cons {v:V}{e:DV}{vs:List V}{es:List DV}:Hv K L x v e->HvA x vs es->HvA x (v::vs) (e::es)
noncomputable def Ho(x:Wd)(a:Addr):OD->Prop
 |.lst es=>∃vs,x.H a=some (.lst vs)/\HvA K L x vs es
 |.frz es=>∃vs,x.hp L a=some (.lst vs)/\HvA K L x vs es
 |.scr es=>∃vs,Rd (x.hp L) a (.lst vs)/\HvA K L x vs es
 |.dk ps=>∃kvs:List (Key×V),x.H a=some (.dK kvs)/\(kvs.map λe=>kD e.1)=ps.map (·.1)/\HvA K L x (kvs.map (·.2)) (ps.map (·.2))
 |.dt ps=>∃es:Es,x.H a=some (DT_ K.P K.w a es)/\es.map (·.1)=ps.map (·.1)/\(∀e∈es,TKey K (x.hp L) e.1 e.2.1)/\HvA K L x (es.map (·.2.2)) (ps.map (·.2))
 |.ins c fs=>∃C dx vs,K.mg c=some (.ref C)/\x.H a=some (.ins C dx ((fs.map (·.1)).zip vs))/\HvA K L x vs (fs.map (·.2))
structure Ok(x:Wd):Prop where
 len:x.φ.length=x.S.length
 nd:x.φ.Nodup
 dis:∀a∈x.φ,¬ L a
 liv:∀a,(L a\/a∈x.φ)->x.H a≠none
 obj:∀(i:Nat) o a,x.S[i]?=some o->x.φ[i]?=some a->Ho K L x a o
structure Ex(x y:Wd):Prop where
 pre:∀(i:Nat) a,x.φ[i]?=some a->y.φ[i]?=some a
 kp:∀b u,¬ x.Lv b->x.H b=some u->y.H b=some u/\¬ y.Lv b
 al:∀b,x.H b≠none->y.H b≠none
 fr:∀(i:Nat) a,y.φ[i]?=some a->x.φ.length<=i->x.H a=none
noncomputable def Rl(x:Wd)(σ:L2.St)(ρ:DEnv):Prop:=σ.length=ρ.length/\∀(i:Nat) e,ρ[i]?=some (some e)->∃v,σ[i]?=some (some v)/\Hv K L x v e
end
section
variable {K:Kc}{L L':Addr->Prop}{x y z:Wd}
theorem qhz{l:List Addr}{i:Nat}{a:Addr}{P:Prop}(h:l[i]?=some a)(g:l.length<=i):P:=absurd (É.mp h).1 (by omega)
theorem Ex.refl:Ex x x:=⟨λ_ _ h=>h,λ_ _ h e=>⟨e,h⟩,λ_ h=>h,λ_ _ h g=>qhz h g⟩
theorem Ex.trans(a:Ex x y)(b:Ex y z):Ex x z:=⟨λi c h=>b.pre i c (a.pre i c h),λc u h e=>let ⟨h1,h2⟩:=a.kp c u h e;b.kp c u h2 h1,λc h=>b.al c (a.al c h),λi c h g=>by
 by_cases l:i<y.φ.length
 ·have e:=b.pre i _ (Í l);rw[h]at e;cases e;exact a.fr i _ (Í l) g
 ·cases e:x.H c with
  |none=>rfl
  |some u=>exact absurd (b.fr i c h (by omega)) (a.al c (by rw[e];simp))⟩
theorem Ex.same(a:Ex x y):Same (x.hp L) (y.hp L):=yas λb u h e=>by
 obtain ⟨h1,h2⟩:=a.kp b u (λz=>h (.inr z)) e;exact ⟨h1,λz=>z.elim (λz=>h (.inl z)) h2⟩
theorem Hv.ex(h:Hv K L x v e)(a:Ex x y):Hv K L y v e:=by
 cases e with
 |d w=>exact Dt.same a.same h
 |r i=>obtain ⟨b,h1,h2⟩:=h;exact ⟨b,a.pre i b h1,h2⟩
theorem HvA.ex(h:HvA K L x vs es)(a:Ex x y):HvA K L y vs es:=by
 induction h with
 |nil=>exact .nil
 |cons h _ ih=>exact .cons (h.ex a) ih
theorem Rl.ex(r:Rl K L x σ ρ)(a:Ex x y):Rl K L y σ ρ:=⟨r.1,λi e h=>let ⟨v,h1,h2⟩:=r.2 i e h;⟨v,h1,h2.ex a⟩⟩
theorem Rl.set(r:Rl K L x σ ρ)(a:Hv K L x v d):Rl K L x (σ.set i (some v)) (ρ.set i (some d)):=by
 refine ⟨by rw[Ł,Ł,r.1],λj e h=>?_⟩;by_cases z:i=j
 ·subst z;have hi:i<ρ.length:=by
   have:=(É.mp h).1
   rwa [Ł]at this
  rw[ą hi]at h;cases h;exact ⟨v,ą (by rw[r.1];exact hi),a⟩
 ·rw[í z]at h;obtain ⟨u,h1,h2⟩:=r.2 j e h;exact ⟨u,by rw[í z];exact h1,h2⟩
theorem HvA.length(h:HvA K L x vs es):vs.length=es.length:=by
 induction h with
 |nil=>rfl
 |cons _ _ ih=>exact congrArg (· + 1) ih
theorem HvA.get{vs:List V}{es:List DV}{i:Nat}{e:DV}(h:HvA K L x vs es)(g:es[i]?=some e):∃v,vs[i]?=some v/\Hv K L x v e:=by
 induction h generalizing i with
 |nil=>simp at g
 |cons a _ ih=>
  cases i with
  |zero=>simp at g;subst g;exact ⟨_,rfl,a⟩
  |succ n=>
   obtain ⟨v,h1,h2⟩:=ih (i:=n) (by simpa using g);exact ⟨v,by simpa using h1,h2⟩
theorem HvA.append(h:HvA K L x vs es)(g:HvA K L x ws fs):HvA K L x (vs++ws) (es++fs):=by
 induction h with
 |nil=>exact g
 |cons a _ ih=>exact .cons a ih
theorem HvA.set(h:HvA K L x vs es)(a:Hv K L x v e):HvA K L x (vs.set i v) (es.set i e):=by
 induction h generalizing i with
 |nil=>exact .nil
 |cons b t ih=>
  cases i with
  |zero=>exact .cons a t
  |succ n=>exact .cons b ih
noncomputable def Wd.up(x:Wd)(p:Addr)(o:HO):Wd:={ x with H:=upd x.H p o }
theorem Ex.up{p:Addr}{o:HO}(n:x.H p=none):Ex x (x.up p o):=⟨λ_ _ h=>h,λb u h e=>⟨by
 show upd x.H p o b=some u;rw[Δ (λz=>by rw[z,n]at e;cases e)];exact e,h⟩,λb h=>(by
 show upd x.H p o b≠none;by_cases z:b=p
 ·rw[z,bB];simp
 ·rw[Δ z];exact h),λ_ _ h g=>qhz h g⟩
theorem HvA.imp(h:HvA K L x vs es)(f:∀v e,Hv K L x v e->Hv K L' y v e):HvA K L' y vs es:=by
 induction h with
 |nil=>exact .nil
 |cons h _ ih=>exact .cons (f _ _ h) ih
theorem Ho.imp(h:Ho K L x a o)(e:∀u,x.H a=some u->y.H a=some u)(d:Same (x.hp L) (y.hp L'))(f:∀v e,Hv K L x v e->Hv K L' y v e):Ho K L' y a o:=by
 cases o with
 |lst es=>obtain ⟨vs,h1,h2⟩:=h;exact ⟨vs,e _ h1,h2.imp f⟩
 |frz es=>obtain ⟨vs,h1,h2⟩:=h;exact ⟨vs,d _ _ h1,h2.imp f⟩
 |scr es=>obtain ⟨vs,h1,h2⟩:=h;exact ⟨vs,Rd.same' d h1,h2.imp f⟩
 |dk ps=>obtain ⟨vs,h1,h2,h3⟩:=h;exact ⟨vs,e _ h1,h2,h3.imp f⟩
 |dt ps=>obtain ⟨vs,h1,h2,h3,h4⟩:=h;exact ⟨vs,e _ h1,h2,λq hq=>⟨Dt.same d (h3 q hq).at_,(h3 q hq).key,(h3 q hq).dp⟩,h4.imp f⟩
 |ins C fs=>obtain ⟨C,dx,vs,h0,h1,h2⟩:=h;exact ⟨C,dx,vs,h0,e _ h1,h2.imp f⟩
theorem Ho.keep(h:Ho K L x a o)(s:Ex x y)(e:∀u,x.H a=some u->y.H a=some u):Ho K L y a o:=
 h.imp e s.same λ_ _ q=>q.ex s
theorem Ok.up(k:Ok K L x)(n:x.H p=none):Ok K L (x.up p o):=by
 have ne:∀a,x.H a≠none->upd x.H p o a=x.H a:=λa h=>Δ λz=>h (by rw[z];exact n);refine ⟨k.len,k.nd,k.dis,λa h=>?_,λi q a h1 h2=>(k.obj i q a h1 h2).keep (Ex.up n) λu e=>?_⟩
 ·show upd x.H p o a≠none;rw[ne a (k.liv a h)];exact k.liv a h
 ·show upd x.H p o a=some u;rw[ne a (by rw[e];simp)];exact e
noncomputable def Wd.put(x:Wd)(i:Nat)(a:Addr)(o:OD)(u:HO):Wd:={ x with S:=x.S.set i o,H:=upd x.H a u }
theorem lv_nd(k:Ok K L x){i j:Nat}{a:Addr}(h1:x.φ[i]?=some a)(h2:x.φ[j]?=some a):i=j:=by
 obtain ⟨l1,e1⟩:=É.mp h1;obtain ⟨l2,e2⟩:=É.mp h2;exact (List.getElem_inj k.nd).mp (e1.trans e2.symm)
theorem Ex.put{i:Nat}{a:Addr}{o o':OD}{u:HO}(k:Ok K L x)(h1:x.φ[i]?=some a)(h2:x.S[i]?=some o)(nd:o.isDead=false):Ex x (x.put i a o' u):=by
 refine ⟨λ_ _ h=>h,λb w h e=>⟨?_,?_⟩,λb h=>?_,λ_ _ h g=>qhz h g⟩
 ·show upd x.H a u b=some w;rw[Δ (λz=>h ⟨i,o,by rw[z];exact h1,h2,nd⟩)];exact e
 ·rintro ⟨j,q,g1,g2,g3⟩;by_cases z:i=j
  ·subst z;rw[show x.φ[i]?=some b from g1]at h1;cases h1;exact h ⟨i,o,g1,h2,nd⟩
  ·have g2':(x.S.set i o')[j]?=some q:=g2;rw[í z]at g2';exact h ⟨j,q,g1,g2',g3⟩
 ·show upd x.H a u b≠none;by_cases z:b=a
  ·rw[z,bB];simp
  ·rw[Δ z];exact h
theorem Ok.put(k:Ok K L x)(h1:x.φ[i]?=some a)(h2:x.S[i]?=some o)(nd:o.isDead=false)(ho:Ho K L (x.put i a o' u) a o'):Ok K L (x.put i a o' u):=by
 refine ⟨by show x.φ.length=(x.S.set i o').length;rw[Ł];exact k.len,k.nd,k.dis,λb h=>?_,λj q b g1 g2=>?_⟩
 ·show upd x.H a u b≠none;by_cases z:b=a
  ·rw[z,bB];simp
  ·rw[Δ z];exact k.liv b h
 ·have g1':(x.S.set i o')[j]?=some q:=g1;by_cases z:i=j
  ·subst z;rw[ą (É.mp h2).1]at g1';cases g1';rw[show x.φ[i]?=some b from g2]at h1;cases h1;exact ho
  ·rw[í z]at g1';refine (k.obj j q b g1' g2).keep (Ex.put k h1 h2 nd) λw e=>?_;show upd x.H a u b=some w;rw[Δ (λzz=>z (lv_nd k h1 (by rw[<-zz];exact g2)))];exact e
noncomputable def Wd.new(x:Wd)(p:Addr)(o:OD)(u:HO):Wd:=⟨x.φ++[p],x.S++[o],upd x.H p u⟩
theorem cP(h:(l++[a])[i]?=some b):l[i]?=some b\/(i=l.length/\b=a):=by
 by_cases z:i<l.length
 ·rw[ë z]at h;exact .inl h
 ·rw[ö (by omega)]at h;cases e:i-l.length with
  |zero=>rw[e]at h;cases h;exact .inr ⟨by omega,rfl⟩
  |succ n=>rw[e]at h;simp at h
theorem ybd{α:Type}{l:List α}{a b:α}{i:Nat}(h:l[i]?=some b):(l++[a])[i]?=some b:=by
 rw[ë (É.mp h).1];exact h
theorem Ex.new{p:Addr}{o:OD}{u:HO}(k:Ok K L x)(n:x.H p=none):Ex x (x.new p o u):=by
 refine ⟨λi a h=>ybd h,λb w h e=>⟨?_,?_⟩,λb h=>?_,λi a h g=>?_⟩
 ·show upd x.H p u b=some w;rw[Δ (λz=>by rw[z,n]at e;cases e)];exact e
 ·rintro ⟨j,q,g1,g2,g3⟩;rcases cP (show (x.φ++[p])[j]?=some b from g1) with g1|⟨_,rfl⟩
  ·rcases cP (show (x.S++[o])[j]?=some q from g2) with g2|⟨z,_⟩
   ·exact h ⟨j,q,g1,g2,g3⟩
   ·have:=(É.mp g1).1;rw[k.len]at this;omega
  ·rw[n]at e;cases e
 ·show upd x.H p u b≠none;by_cases z:b=p
  ·rw[z,bB];simp
  ·rw[Δ z];exact h
 ·rcases cP (show (x.φ++[p])[i]?=some a from h) with h|⟨_,rfl⟩
  ·exact qhz h g
  ·exact n
theorem Ok.new(k:Ok K L x)(n:x.H p=none)(ho:Ho K L (x.new p o u) p o):Ok K L (x.new p o u):=by
 refine ⟨by show (x.φ++[p]).length=(x.S++[o]).length;rw[Ó,Ó,k.len];rfl,?_,λa h z=>?_,λb h=>?_,λj q b g1 g2=>?_⟩
 ·show (x.φ++[p]).Nodup;rw[nodup_append];refine ⟨k.nd,by simp,λa ha b hb z=>?_⟩;rw[ê.mp hb]at z;exact k.liv a (.inr ha) (by rw[z];exact n)
 ·rcases ŀ.mp h with h|h
  ·exact k.dis a h z
  ·rw[ê.mp h]at z;exact k.liv p (.inl z) n
 ·show upd x.H p u b≠none;by_cases z:b=p
  ·rw[z,bB];simp
  ·rw[Δ z];rcases h with h|h
   ·exact k.liv b (.inl h)
   ·rcases ŀ.mp h with h|h
    ·exact k.liv b (.inr h)
    ·exact absurd (ê.mp h) z
 ·rcases cP (show (x.S++[o])[j]?=some q from g1) with g1|⟨z,rfl⟩
  ·rcases cP (show (x.φ++[p])[j]?=some b from g2) with g2|⟨z,_⟩
   ·refine (k.obj j q b g1 g2).keep (Ex.new k n) λw e=>?_;show upd x.H p u b=some w;rw[Δ (λz=>by rw[z,n]at e;cases e)];exact e
   ·have:=(É.mp g1).1;rw[<-k.len]at this;omega
  ·rcases cP (show (x.φ++[p])[j]?=some b from g2) with g2|⟨_,rfl⟩
   ·have:=(É.mp g2).1;rw[k.len]at this;omega
   ·exact ho
theorem yb8(k:Ok K L x){e:DV}:Hv K L (x.new p o u) (.ref p) (.r x.S.length):=⟨p,by show (x.φ++[p])[x.S.length]?=some p;rw[<-k.len,aH],rfl⟩
noncomputable def datas:List DV->Option (List Â)
 |[]=>some []
 |.d a::r=>(datas r).map (a :: ·)
 |_=>none
theorem HvA.datas(h:HvA K L x vs es)(e:datas es=some ds):DtA K (x.hp L) vs ds:=by
 induction h generalizing ds with
 |nil=>cases e;exact .nil
 |@cons v e1 vs' es' a _ ih=>
  cases e1 with
  |d y=>
   obtain ⟨ds',e',rfl⟩:=Á.mp e;exact .cons a (ih e')
  |r i=>cases e
theorem qgh(h:DtA K (x.hp L) vs ds):HvA K L x vs (ds.map .d):=by
 induction ds generalizing vs with
 |nil=>cases h;exact .nil
 |cons d ds ih=>cases h with|cons a t=>exact .cons a (ih t)
theorem eF(ds:List Â):datas (ds.map .d)=some ds:=by
 induction ds with
 |nil=>rfl
 |cons d ds ih=>show (datas (ds.map .d)).map (d :: ·)=_;rw[ih];rfl
theorem fr_ok{i:Nat}{a:Addr}{es:List DV}(k:Ok K L x)(h1:x.φ[i]?=some a)(hs:x.S[i]?=some (.lst es)):Ex x { x with S:=x.S.set i (.frz es) }/\Ok K L { x with S:=x.S.set i (.frz es) }/\∃vs,Wd.hp L { x with S:=x.S.set i (.frz es) } a=some (.lst vs)/\HvA K L { x with S:=x.S.set i (.frz es) } vs es:=by
 obtain ⟨vs,hv,ha⟩:=k.obj i _ a hs h1;have nl:∀b,Wd.Lv { x with S:=x.S.set i (.frz es) } b->x.Lv b/\b≠a:=by
  rintro b ⟨j,q,g1,g2,g3⟩;have g2':(x.S.set i (.frz es))[j]?=some q:=g2;by_cases z:i=j
  ·subst z;rw[ą (É.mp hs).1]at g2';cases g2';cases g3
  ·rw[í z]at g2';exact ⟨⟨j,q,g1,g2',g3⟩,λzz=>z (lv_nd k h1 (by rw[<-zz];exact g1))⟩
 have ex:Ex x { x with S:=x.S.set i (.frz es) }:=⟨λ_ _ h=>h,λb u h e=>⟨e,λz=>h (nl b z).1⟩,λ_ h=>h,λ_ _ h g=>qhz h g⟩;have fin:∃vs,Wd.hp L { x with S:=x.S.set i (.frz es) } a=some (.lst vs)/\HvA K L { x with S:=x.S.set i (.frz es) } vs es:=⟨vs,(qce (λz=>z.elim (k.dis a (ć h1)) λz=>(nl a z).2 rfl)).trans hv,ha.ex ex⟩;refine ⟨ex,⟨by show x.φ.length=(x.S.set i (.frz es)).length;rw[Ł];exact k.len,k.nd,k.dis,k.liv,λj q b g1 g2=>?_⟩,fin⟩;have g1':(x.S.set i (.frz es))[j]?=some q:=g1;by_cases z:i=j
 ·subst z;rw[ą (É.mp hs).1]at g1';cases g1';rw[show x.φ[i]?=some b from g2]at h1;cases h1;exact fin
 ·rw[í z]at g1';exact (k.obj j q b g1' g2).keep ex λu e=>e
noncomputable def fz(e:DV)(S:OS):Option (Â×OS):=match e with
 |.d y=>some (y,S)
 |.r i=>match S[i]? with
  |some (.lst es)=>(datas es).map λds=>(.list ds,S.set i (.frz es))
  |some (.frz es)=>(datas es).map λds=>(.list ds,S)
  |_=>none
theorem yin(k:Ok K L x)(h:Hv K L x v e)(f:fz e x.S=some (d,S')):Ex x { x with S:=S' }/\Ok K L { x with S:=S' }/\Dt K (Wd.hp L { x with S:=S' }) v d:=by
 cases e with
 |d y=>cases f;exact ⟨Ex.refl,k,h⟩
 |r i=>
  obtain ⟨a,h1,rfl⟩:=h;unfold fz at f;dsimp only at f;split at f
  ·rename_i es hs
   obtain ⟨ds,e2,f⟩:=Á.mp f;cases f;obtain ⟨q1,q2,vs,q3,q4⟩:=fr_ok k h1 hs;exact ⟨q1,q2,.lst q3 (q4.datas e2)⟩
  ·rename_i es hs
   obtain ⟨ds,e2,f⟩:=Á.mp f;cases f;obtain ⟨vs,q3,q4⟩:=k.obj i _ a hs h1;exact ⟨Ex.refl,k,.lst q3 (q4.datas e2)⟩
  ·cases f
noncomputable def wk(e:DV)(S:OS):Option (List DV×OS):=match e with
 |.d (.list ds)=>some (ds.map .d,S)
 |.d (.tuple ds)=>some (ds.map .d,S)
 |.r i=>match S[i]? with
  |some (.lst es)=>some (es,S.set i (.frz es))
  |some (.frz es)=>some (es,S)
  |_=>none
 |_=>none
theorem wk_ok(k:Ok K L x)(h:Hv K L x v e)(f:wk e x.S=some (es,S')):Ex x { x with S:=S' }/\Ok K L { x with S:=S' }/\∃p vs,v=.ref p/\(SqT K.K (Wd.hp L { x with S:=S' }) p vs\/Wd.hp L { x with S:=S' } p=some (.lst vs))/\HvA K L { x with S:=S' } vs es:=by
 unfold wk at f;split at f
 ·cases f;cases h with|lst a b=>exact ⟨Ex.refl,k,_,_,rfl,.inr a,qgh b⟩
 ·cases f;cases h with|tup a b=>exact ⟨Ex.refl,k,_,_,rfl,.inl a,qgh b⟩
 ·rename_i i
  obtain ⟨a,h1,rfl⟩:=h;split at f
  ·rename_i es' hs
   cases f;obtain ⟨q1,q2,vs,q3,q4⟩:=fr_ok k h1 hs;exact ⟨q1,q2,a,vs,rfl,.inr q3,q4⟩
  ·rename_i es' hs
   cases f;obtain ⟨vs,q3,q4⟩:=k.obj i _ a hs h1;exact ⟨Ex.refl,k,a,vs,rfl,.inr q3,q4⟩
  ·cases f
 ·cases f
noncomputable def sq(e:DV)(S:OS):Option (Bool×List DV):=match e with
 |.d (.list ds)=>some (false,ds.map .d)
 |.d (.tuple ds)=>some (true,ds.map .d)
 |.r i=>match S[i]? with
  |some (.lst es)=>some (false,es)
  |some (.frz es)=>some (false,es)
  |some (.scr es)=>some (false,es)
  |_=>none
 |_=>none
noncomputable def SqB(K:Kc)(H:Hp)(p:Addr)(vs:List V)(t:Bool):Prop:=if t=true then SqT K.K H p vs else SqL K.K H p vs
theorem qip(k:Ok K L x)(h:Hv K L x v e)(f:sq e x.S=some (t,es)):∃p vs,v=.ref p/\SqB K x.H p vs t/\HvA K L x vs es:=by
 unfold sq at f;split at f
 ·cases f;cases h with|lst a b=>exact ⟨_,_,rfl,cp (bJ _ _ a),qgh b⟩
 ·cases f;cases h with|tup a b=>exact ⟨_,_,rfl,SqT.same bJ a,qgh b⟩
 ·rename_i i
  split at f
  ·rename_i es' hs
   cases f;obtain ⟨a,h1,rfl⟩:=h;obtain ⟨vs,hv,ha⟩:=k.obj i _ a hs h1;exact ⟨a,vs,rfl,cp hv,ha⟩
  ·rename_i ds hs
   cases f;obtain ⟨a,h1,rfl⟩:=h;obtain ⟨vs,hv,ha⟩:=k.obj i _ a hs h1;exact ⟨a,vs,rfl,cp (bJ _ _ hv),ha⟩
  ·rename_i ds hs
   cases f;obtain ⟨a,h1,rfl⟩:=h;obtain ⟨vs,hv,ha⟩:=k.obj i _ a hs h1;exact ⟨a,vs,rfl,.inl (Rd.same' bJ hv),ha⟩
  ·cases f
 ·cases f
noncomputable def lsO(e:DV)(S:OS):Option (List DV):=match e with
 |.d (.list ds)=>some (ds.map .d)
 |.r i=>match S[i]? with
  |some (.lst es)=>some es
  |some (.frz es)=>some es
  |_=>none
 |_=>none
theorem lsO_ok(k:Ok K L x)(h:Hv K L x v e)(f:lsO e x.S=some es):∃p vs,v=.ref p/\x.H p=some (.lst vs)/\HvA K L x vs es:=by
 unfold lsO at f;split at f
 ·cases f;cases h with|lst a b=>exact ⟨_,_,rfl,bJ _ _ a,qgh b⟩
 ·rename_i i
  obtain ⟨a,h1,rfl⟩:=h;split at f
  ·rename_i es' hs
   cases f;obtain ⟨vs,hv,ha⟩:=k.obj i _ a hs h1;exact ⟨a,vs,rfl,hv,ha⟩
  ·rename_i ds hs
   cases f;obtain ⟨vs,hv,ha⟩:=k.obj i _ a hs h1;exact ⟨a,vs,rfl,bJ _ _ hv,ha⟩
  ·cases f
 ·cases f
noncomputable def vw(e:DV)(S:OS):Option Â:=match e with
 |.d y=>some y
 |.r i=>match S[i]? with
  |some (.lst es)=>(datas es).map .list
  |some (.frz es)=>(datas es).map .list
  |_=>none
theorem qid(k:Ok K L x)(h:Hv K L x v e)(f:vw e x.S=some d):Dt K x.H v d:=by
 unfold vw at f;split at f
 ·cases f;exact Dt.same bJ h
 ·rename_i i
  obtain ⟨a,h1,rfl⟩:=h;split at f
  ·rename_i es' hs
   obtain ⟨ds,e2,rfl⟩:=Á.mp f;obtain ⟨vs,hv,ha⟩:=k.obj i _ a hs h1;exact .lst hv ((ha.datas e2).same bJ)
  ·rename_i es' hs
   obtain ⟨ds,e2,rfl⟩:=Á.mp f;obtain ⟨vs,hv,ha⟩:=k.obj i _ a hs h1;exact .lst (bJ _ _ hv) ((ha.datas e2).same bJ)
  ·cases f
end
end Dp
namespace Dp
open PySem L2 PyProof.Rows Mx
noncomputable abbrev FE:=DEnv->OS->Option (DV×OS)
noncomputable abbrev FA:=DEnv->OS->Option (List DV×OS)
noncomputable abbrev FT:=DEnv->OS->Option (Bool×OS)
inductive Out where
 |nx (ρ:DEnv)
 |rt (d:DV)
noncomputable abbrev FS:=DEnv->OS->Option (Out×OS)
section
variable (K:Kc)
noncomputable def Dn(te:TE)(f:FE):Prop:=∀L ρ σ x r S' (Q:VK),f ρ x.S=some (r,S')->Ok K L x->Rl K L x σ ρ->(∀v y,Ex x y->y.S=S'->Ok K L y->Hv K L y v r->Q v y.H)->te σ x.H Q
noncomputable def DnA(ta:TA)(f:FA):Prop:=∀L ρ σ x r S' (Q:List V->Hp->Prop),f ρ x.S=some (r,S')->Ok K L x->Rl K L x σ ρ->(∀vs y,Ex x y->y.S=S'->Ok K L y->HvA K L y vs r->Q vs y.H)->ta σ x.H Q
noncomputable def DnT(tt:TT)(f:FT):Prop:=∀L ρ σ x r S' (Q:Bool->Hp->Prop),f ρ x.S=some (r,S')->Ok K L x->Rl K L x σ ρ->(∀y,Ex x y->y.S=S'->Ok K L y->Q r y.H)->tt σ x.H Q
noncomputable def OutK(L:Addr->Prop)(x:Wd)(S':OS)(D:Ends):Out->Prop
 |.nx ρ=>∀σ y,Ex x y->y.S=S'->Ok K L y->Rl K L y σ ρ->D.nx σ y.H
 |.rt d=>∀v y,Ex x y->y.S=S'->Ok K L y->Hv K L y v d->D.rt v y.H
noncomputable def DnS(ts:TS)(f:FS):Prop:=∀L ρ σ x r S' (D:Ends),f ρ x.S=some (r,S')->Ok K L x->Rl K L x σ ρ->OutK K L x S' D r->ts D σ x.H
end
theorem OutK.ex{K:Kc}{L:Addr->Prop}{x y:Wd}{S':OS}{D:Ends}{q:Out}(h:OutK K L x S' D q)(e:Ex x y):OutK K L y S' D q:=by
 cases q with
 |nx ρ=>exact λσ z ez=>h σ z (e.trans ez)
 |rt d=>exact λv z ez=>h v z (e.trans ez)
noncomputable def DE(X:Cx)(e:Expr)(f:FE):Prop:=∃t,PE X e t/\Dn X.kc t f
noncomputable def DA(X:Cx)(es:List Expr)(f:FA):Prop:=∃t,PA X es t/\DnA X.kc t f
noncomputable def DT(X:Cx)(e:Expr)(f:FT):Prop:=∃t,PT X e t/\DnT X.kc t f
noncomputable def DW(X:Cx)(e:Expr)(f:FT):Prop:=∃t,PW X e t/\DnT X.kc t f
noncomputable def DS(X:Cx)(s:Stmt)(f:FS):Prop:=∃t,PS X s t/\DnS X.kc t f
noncomputable def DB(X:Cx)(ss:List Stmt)(f:FS):Prop:=∃t,PSs X ss t/\DnS X.kc t f
theorem bnd(h:x.bind k=some b):∃a,x=some a/\k a=some b:=Option.bind_eq_some_iff.mp h
section
variable {X:Cx}{e a b:Expr}{es:List Expr}{f g:FE}{fa:FA}{ft gt:FT}{pos p:Pos}
noncomputable def noS:FS:=λ_ _=>none
theorem ds_no:DS X s noS:=⟨λ_ _ _=>False,λ_ _ _ _ _ _ h=>h.elim,λ_ _ _ _ _ _ _ h=>by cases h⟩
noncomputable def Ä(i:Nat):FE:=λρ S=>(ρ[i]?.bind id).map λd=>(d,S)
theorem de_var(hN:X.N[i]?=some x)(hv:Vis X.env.scope x)(hd:(x == ("__debug__" : Str))=false)(hcd:(x == ("__classdict__" : Str))=false):DE X (.Name x pos) (Ä i):=⟨_,pe_var hN hv hd hcd,λL ρ σ x r S' Q h k rl q=>by
 obtain ⟨d,e1,h⟩:=Á.mp h;cases h;obtain ⟨o,e2,e3⟩:=bnd e1;cases (show o=some r from e3);obtain ⟨v,h1,h2⟩:=rl.2 i r e2;exact ⟨v,h1,q v x Ex.refl rfl k h2⟩⟩
noncomputable def cF(d:Â):FE:=λ_ S=>some (.d d,S)
theorem dn_c{K:Kc}{v:V}{d:Â}(h:∀H,Dt K H v d):Dn K (tC v) (cF d):=λL ρ σ x r S' Q e k rl q=>by
 cases e;exact q v x Ex.refl rfl k (h _)
theorem de_int{j}:DE X (.Constant (.int i) j pos) (cF (.int i)):=⟨_,pe_int,dn_c λ_=>.int i⟩
theorem de_str{j}:DE X (.Constant (.str x) j pos) (cF (.str x)):=⟨_,pe_str,dn_c λ_=>.str x⟩
theorem de_non{j}:DE X (.Constant .none j pos) (cF .none):=⟨_,pe_non,dn_c λ_=>.non⟩
theorem de_bl{j}:DE X (.Constant (.bool c) j pos) (cF (.bool c)):=⟨_,pe_bl,dn_c λ_=>.bl c⟩
noncomputable def Î:FA:=λ_ S=>some ([],S)
noncomputable def Ñ(f:FE)(fa:FA):FA:=λρ S=>(f ρ S).bind λp=>(fa ρ p.2).bind λq=>some (p.1::q.1,q.2)
theorem da_nil:DA X [] Î:=⟨_,ydk,λL ρ σ x r S' Q h k rl q=>by cases h;exact q [] x Ex.refl rfl k .nil⟩
noncomputable def bA:Expr->Bool
 |.Starred _ _=>false
 |_=>true
theorem bM(h:bA e=true):â (e::es) X.env=(false,eval e X.env)::â es X.env:=by
 cases e<;>first|rfl|cases h
theorem yke(hs:bA e=true)(h1:DE X e f)(h2:DA X es fa):DA X (e::es) (Ñ f fa):=by
 obtain ⟨t,p1,d1⟩:=h1;obtain ⟨u,p2,d2⟩:=h2;refine ⟨_,ybe p1 p2 (bM hs),λL ρ σ x r S' Q h k rl q=>?_⟩;obtain ⟨⟨r1,S1⟩,e1,h⟩:=bnd h;obtain ⟨⟨r2,S2⟩,e2,h⟩:=bnd h;cases h;refine d1 L ρ σ x r1 S1 _ e1 k rl λv y ex ey ky hv=>?_;subst ey;exact d2 L ρ σ y r2 S2 _ e2 ky (rl.ex ex) λvs z ez eS kz hz=>q _ z (ex.trans ez) eS kz (.cons (hv.ex ez) hz)
noncomputable def d8:List DV->OS->Option (List Â×OS)
 |[],S=>some ([],S)
 |e::es,S=>(fz e S).bind λp=>(d8 es p.2).bind λq=>some (p.1::q.1,q.2)
theorem qgq{K:Kc}{L:Addr->Prop}:∀{es:List DV}{vs:List V}{x:Wd}{ds:List Â}{S':OS},Ok K L x->HvA K L x vs es->d8 es x.S=some (ds,S')->Ex x { x with S:=S' }/\Ok K L { x with S:=S' }/\DtA K (Wd.hp L { x with S:=S' }) vs ds
 |[],_,x,ds,S',k,.nil,h=>by cases h;exact ⟨Ex.refl,k,.nil⟩
 |e::es,_,x,ds,S',k,.cons h1 h2,h=>by
  obtain ⟨⟨d,S1⟩,e1,h⟩:=bnd h;obtain ⟨⟨ds',S2⟩,e2,h⟩:=bnd h;cases h;obtain ⟨x1,k1,a1⟩:=yin k h1 e1;obtain ⟨x2,k2,a2⟩:=qgq (x:={ x with S:=S1 }) k1 (h2.ex x1) e2;exact ⟨x1.trans x2,k2,.cons (a1.same x2.same) a2⟩
theorem DtA.length{K:Kc}{H:Hp}:∀{vs:List V}{ds:List Â},DtA K H vs ds->vs.length=ds.length
 |_,_,.nil=>rfl
 |_,_,.cons _ b=>congrArg (· + 1) b.length
noncomputable def most:Nat:=100000
theorem eY(h:n<=most):n<=Õ:=Ğ h (by decide)
theorem qei(h:n<=most):n<Õ:=ž h (by decide)
theorem cT{K:Kc}{L:Addr->Prop}{x:Wd}{p:Addr}{vs:List V}{ds:List Â}(k:Ok K L x)(n:x.H p=none)(h:DtA K (x.hp L) vs ds):Dt K ((x.up p (.tup vs)).hp L) (.ref p) (.tuple ds)/\Dt K ((x.up p (.lst vs)).hp L) (.ref p) (.list ds):=by
 have np:∀o,¬ (L p\/(x.up p o).Lv p):=λo z=>by
  rcases z with z|⟨i,q,g1,_⟩
  ·exact k.liv p (.inl z) n
  ·exact k.liv p (.inr (ć g1)) n
 exact ⟨.tup (sqtO ((qce (np _)).trans bB)) (h.same (Ex.up n).same),.lst ((qce (np _)).trans bB) (h.same (Ex.up n).same)⟩
noncomputable def ģ(fa:FA):FE:=λρ S=>(fa ρ S).bind λp=>(d8 p.1 p.2).bind λq=>if q.1.length<=most then some (.d (.tuple q.1),q.2) else none
noncomputable def ĵ(fa:FA):FE:=λρ S=>(fa ρ S).bind λp=>(d8 p.1 p.2).bind λq=>if q.1.length<=most then some (.d (.list q.1),q.2) else none
theorem de_tup{j}(h:DA X es fa):DE X (.Tuple es j pos) (ģ fa):=by
 obtain ⟨t,p1,d1⟩:=h;refine ⟨_,pe_tup p1,λL ρ σ x r S' Q h k rl q=>?_⟩;obtain ⟨⟨es,S1⟩,e1,h⟩:=bnd h;obtain ⟨⟨ds,S2⟩,e2,h⟩:=bnd h;dsimp only at h e2;split at h
 ·cases h;refine d1 L ρ σ x es S1 _ e1 k rl λvs y ex ey ky hv=>?_;subst ey;obtain ⟨x2,k2,a2⟩:=qgq ky hv e2;refine ⟨eY (by rw[a2.length];assumption),λp n=>q (.ref p) (Wd.up { y with S:=S' } p (.tup vs)) ((ex.trans x2).trans (Ex.up n)) rfl (k2.up n) (cT k2 n a2).1⟩
 ·cases h
theorem de_lst(h:DA X es fa):DE X (.List es pos) (ĵ fa):=by
 obtain ⟨t,p1,d1⟩:=h;refine ⟨_,pe_lst p1,λL ρ σ x r S' Q h k rl q=>?_⟩;obtain ⟨⟨es,S1⟩,e1,h⟩:=bnd h;obtain ⟨⟨ds,S2⟩,e2,h⟩:=bnd h;dsimp only at h e2;split at h
 ·cases h;refine d1 L ρ σ x es S1 _ e1 k rl λvs y ex ey ky hv=>?_;subst ey;obtain ⟨x2,k2,a2⟩:=qgq ky hv e2;refine ⟨eY (by rw[a2.length];assumption),λp n=>q (.ref p) (Wd.up { y with S:=S' } p (.lst vs)) ((ex.trans x2).trans (Ex.up n)) rfl (k2.up n) (cT k2 n a2).2⟩
 ·cases h
noncomputable abbrev G2:=DV->DV->OS->Option (DV×OS)
noncomputable def OpD(X:Cx)(r:R2)(g:G2):Prop:=∀L x u v du dv r' S' (Q:VK),Ok X.kc L x->Hv X.kc L x u du->Hv X.kc L x v dv->g du dv x.S=some (r',S')->(∀w y,Ex x y->y.S=S'->Ok X.kc L y->Hv X.kc L y w r'->Q w y.H)->r u v x.H Q
noncomputable def ß(g:G2)(f h:FE):FE:=λρ S=>(f ρ S).bind λp=>(h ρ p.2).bind λq=>g p.1 q.1 q.2
theorem dn_op(ho:OpD X r g2)(d1:Dn X.kc te f)(d2:Dn X.kc tf g):Dn X.kc (tOp r te tf) (ß g2 f g):=λL ρ σ x r S' Q h k rl q=>by
 obtain ⟨⟨r1,S1⟩,e1,h⟩:=bnd h;obtain ⟨⟨r2,S2⟩,e2,h⟩:=bnd h;refine d1 L ρ σ x r1 S1 _ e1 k rl λv y ex ey ky hv=>?_;subst ey;refine d2 L ρ σ y r2 S2 _ e2 ky (rl.ex ex) λu z ez eS kz hz=>?_;subst eS;exact ho L z v u r1 r2 r S' Q kz (hv.ex ez) hz h λw z' e'=>q w z' ((ex.trans ez).trans e')
noncomputable def dZ(g h:G2):G2:=λa b S=>(g a b S).or (h a b S)
noncomputable def Op2(X:Cx)(fn:Æ->Æ->Sem Æ)(g:G2):Prop:=∃r,OpR X fn r/\OpD X r g
theorem yd2{fn:Æ->Æ->Sem Æ}{g h:G2}(a:Op2 X fn g)(b:Op2 X fn h):Op2 X fn (dZ g h):=by
 obtain ⟨r,a1,a2⟩:=a;obtain ⟨r',b1,b2⟩:=b;refine ⟨_,a1.or b1,λL x u v du dv r1 S' Q k hu hv e q=>?_⟩;unfold dZ at e;cases e1:g du dv x.S with
 |some p=>rw[e1]at e;cases e;exact .inl (a2 L x u v du dv r1 S' Q k hu hv e1 q)
 |none=>rw[e1,æ]at e;exact .inr (b2 L x u v du dv r1 S' Q k hu hv e q)
theorem de_bin(ho:Op2 X (Ń op) g2)(h1:DE X a f)(h2:DE X b g):DE X (.BinOp a op b pos) (ß g2 f g):=by
 obtain ⟨r,o1,o2⟩:=ho;obtain ⟨t,p1,d1⟩:=h1;obtain ⟨u,p2,d2⟩:=h2;exact ⟨_,pe_op o1 p1 p2,dn_op o2 d1 d2⟩
theorem de_cmp(ho:Op2 X (ĕ op) g2)(h1:DE X a f)(h2:DE X b g)(hm:Ŏ op b=false):DE X (.Compare a [op] [b] pos) (ß g2 f g):=by
 obtain ⟨r,o1,o2⟩:=ho;obtain ⟨t,p1,d1⟩:=h1;obtain ⟨u,p2,d2⟩:=h2;exact ⟨_,yjw o1 p1 p2 hm,dn_op o2 d1 d2⟩
noncomputable def ò(f:FE):FT:=λρ S=>(f ρ S).bind λp=>match p.1 with
 |.d (.bool b)=>some (b,p.2)
 |_=>none
theorem qdy(d1:Dn X.kc te f):DnT X.kc (tTest te) (ò f):=λL ρ σ x r S' Q h k rl q=>by
 obtain ⟨⟨r1,S1⟩,e1,h⟩:=bnd h;dsimp only at h;split at h
 ·cases h
  rename_i b
  refine d1 L ρ σ x _ S' _ e1 k rl λv y ex ey ky hv=>?_;cases hv;exact ⟨_,rfl,q y ex ey ky⟩
 ·cases h
theorem dt_cmp(ho:Op2 X (ĕ op) g2)(h1:DE X a f)(h2:DE X b g)(hm:Ŏ op b=false):DT X (.Compare a [op] [b] pos) (ò (ß g2 f g)):=by
 obtain ⟨r,o1,o2⟩:=ho;obtain ⟨t,p1,d1⟩:=h1;obtain ⟨u,p2,d2⟩:=h2;exact ⟨_,qj8 o1 p1 p2 hm,qdy (dn_op o2 d1 d2)⟩
theorem dt_val(h1:DE X e f)(he:∀whole,isTrue e X.env whole=(do let v <-whole;standAt e.pos;holding [v] (truthy v))):DT X e (ò f):=by
 obtain ⟨t,p1,d1⟩:=h1;exact ⟨_,pt_val p1 he,qdy d1⟩
noncomputable def χ(f:FT):FT:=λρ S=>(f ρ S).map λp=>(!p.1,p.2)
noncomputable def ψ(f g:FT):FT:=λρ S=>(f ρ S).bind λp=>if p.1=true then g ρ p.2 else some (false,p.2)
noncomputable def orF(f g:FT):FT:=λρ S=>(f ρ S).bind λp=>if p.1=true then some (true,p.2) else g ρ p.2
theorem dn_not(d1:DnT X.kc t ft):DnT X.kc (tNot t) (χ ft):=λL ρ σ x r S' Q h k rl q=>by
 obtain ⟨⟨b,S1⟩,e1,h⟩:=Á.mp h;cases h;exact d1 L ρ σ x b S1 _ e1 k rl λy ex ey ky=>q y ex ey ky
theorem dt_not(h1:DT X a ft):DT X (.UnaryOp .Not a pos) (χ ft):=by
 obtain ⟨t,p1,d1⟩:=h1;exact ⟨_,pt_not p1,dn_not d1⟩
theorem dn_and(d1:DnT X.kc t ft)(d2:DnT X.kc u gt):DnT X.kc (tAnd t u) (ψ ft gt):=λL ρ σ x r S' Q h k rl q=>by
 obtain ⟨⟨b,S1⟩,e1,h⟩:=bnd h;refine d1 L ρ σ x b S1 _ e1 k rl λy ex ey ky=>?_;subst ey;cases b with
 |true=>exact d2 L ρ σ y r S' _ h ky (rl.ex ex) λz ez eS kz=>q z (ex.trans ez) eS kz
 |false=>cases h;exact q y ex rfl ky
theorem dn_or(d1:DnT X.kc t ft)(d2:DnT X.kc u gt):DnT X.kc (tOr t u) (orF ft gt):=λL ρ σ x r S' Q h k rl q=>by
 obtain ⟨⟨b,S1⟩,e1,h⟩:=bnd h;refine d1 L ρ σ x b S1 _ e1 k rl λy ex ey ky=>?_;subst ey;cases b with
 |false=>exact d2 L ρ σ y r S' _ h ky (rl.ex ex) λz ez eS kz=>q z (ex.trans ez) eS kz
 |true=>cases h;exact q y ex rfl ky
theorem dw_and1(h:DT X a ft):DW X (.BoolOp .And [a] pos) ft:=let ⟨t,p1,d1⟩:=h;⟨t,pw_and1 p1,d1⟩
theorem dw_or1(h:DT X a ft):DW X (.BoolOp .Or [a] pos) ft:=let ⟨t,p1,d1⟩:=h;⟨t,pw_or1 p1,d1⟩
theorem dw_and{rest:List Expr}(h1:DT X a ft)(h2:DW X (.BoolOp .And (b::rest) pos) gt):DW X (.BoolOp .And (a::b::rest) pos) (ψ ft gt):=by
 obtain ⟨t,p1,d1⟩:=h1;obtain ⟨u,p2,d2⟩:=h2;exact ⟨_,pw_and p1 p2,dn_and d1 d2⟩
theorem dw_or{rest:List Expr}(h1:DT X a ft)(h2:DW X (.BoolOp .Or (b::rest) pos) gt):DW X (.BoolOp .Or (a::b::rest) pos) (orF ft gt):=by
 obtain ⟨t,p1,d1⟩:=h1;obtain ⟨u,p2,d2⟩:=h2;exact ⟨_,pw_or p1 p2,dn_or d1 d2⟩
theorem DW.dt(h:DW X e ft):DT X e ft:=let ⟨t,p1,d1⟩:=h;⟨t,p1.pt,d1⟩
noncomputable def ifF(c:FT)(f g:FE):FE:=λρ S=>(c ρ S).bind λp=>if p.1=true then f ρ p.2 else g ρ p.2
theorem de_if(hc:DT X c ft)(h1:DE X a f)(h2:DE X b g):DE X (.IfExp c a b pos) (ifF ft f g):=by
 obtain ⟨t,p1,d1⟩:=hc;obtain ⟨u,p2,d2⟩:=h1;obtain ⟨w,p3,d3⟩:=h2;refine ⟨_,pe_ifExp p1 p2 p3,λL ρ σ x r S' Q h k rl q=>?_⟩;obtain ⟨⟨c1,S1⟩,e1,h⟩:=bnd h;refine d1 L ρ σ x c1 S1 _ e1 k rl λy ex ey ky=>?_;subst ey;cases c1 with
 |true=>exact fB (d2 L ρ σ y r S' _ h ky (rl.ex ex) λv z ez=>q v z (ex.trans ez))
 |false=>exact fC (d3 L ρ σ y r S' _ h ky (rl.ex ex) λv z ez=>q v z (ex.trans ez))
end
end Dp
namespace Dp
open PySem L2 PyProof.Rows Mx
section
variable {X:Cx}
noncomputable def eM(g:Int->Int->Option Â):G2:=λa b S=>match a,b with
 |.d (.int i),.d (.int j)=>(g i j).map λd=>(.d d,S)
 |_,_=>none
theorem qiw(h:eM g a b S=some p):∃i j d,a=.d (.int i)/\b=.d (.int j)/\g i j=some d/\p=(.d d,S):=by
 unfold eM at h;split at h
 ·obtain ⟨d,e,rfl⟩:=Á.mp h;exact ⟨_,_,d,rfl,rfl,e,rfl⟩
 ·cases h
theorem op2_I(h:OpR X fn (rI C g))(hg:∀i j d,g' i j=some d->C i j/\∀H,Dt X.kc H (g i j) d):Op2 X fn (eM g'):=⟨_,h,λL x u v du dv r S' Q k hu hv e q=>by
 obtain ⟨i,j,d,rfl,rfl,e1,e2⟩:=qiw e;cases e2;cases hu;cases hv;obtain ⟨h1,h2⟩:=hg i j d e1;exact ⟨i,j,rfl,rfl,h1,q _ x Ex.refl rfl k (h2 _)⟩⟩
theorem rI0_rI(h:OpR X fn (rI0 g)):OpR X fn (rI (λ_ _=>True) g):=λpins s σ H x y v u Q I rx ry ⟨i,j,e1,e2,_,q⟩=>h pins s σ H x y v u Q I rx ry ⟨i,j,e1,e2,q⟩
noncomputable def iG(g:Int->Int->Int):G2:=eM λi j=>some (.int (g i j))
noncomputable def bG(g:Int->Int->Bool):G2:=eM λi j=>some (.bool (g i j))
noncomputable def cG(c:Int->Int->Bool)(g:Int->Int->Int):G2:=eM λi j=>if c i j=true then some (.int (g i j)) else none
theorem op2_i(h:OpR X fn (rI0 λi j=>.int (g i j))):Op2 X fn (iG g):=op2_I (rI0_rI h) λi j d e=>by cases e;exact ⟨trivial,λ_=>.int _⟩
theorem op2_b(h:OpR X fn (rI0 λi j=>.bl (g i j))):Op2 X fn (bG g):=op2_I (rI0_rI h) λi j d e=>by cases e;exact ⟨trivial,λ_=>.bl _⟩
theorem op2_c(h:OpR X fn (rI C λi j=>.int (g i j)))(hc:∀i j,c i j=true->C i j):Op2 X fn (cG c g):=op2_I h λi j d e=>by
 split at e
 ·cases e;exact ⟨hc _ _ (by assumption),λ_=>.int _⟩
 ·cases e
noncomputable def smB(i:Int):Bool:=decide (-(2 ^ 64)<i)&&decide (i<2 ^ 64)
theorem HvA.atI{K:Kc}{L:Addr->Prop}{x:Wd}{vs:List V}{es:List DV}{i:Int}{e:DV}(h:HvA K L x vs es)(g:L2.atI es i=some e):∃v,L2.atI vs i=some v/\Hv K L x v e:=by
 unfold L2.atI at g ⊢;rw[h.length];obtain ⟨j,e1,e2⟩:=bnd g;obtain ⟨v,h1,h2⟩:=h.get e2;exact ⟨v,by rw[e1];exact h1,h2⟩
noncomputable def cA(a:DV)(S:OS):Option (Bool×List Â):=(sq a S).bind λp=>(datas p.2).map λds=>(p.1,ds)
theorem qb1{K:Kc}{L:Addr->Prop}{x:Wd}{v:V}{e:DV}{t:Bool}{ds:List Â}(k:Ok K L x)(h:Hv K L x v e)(f:cA e x.S=some (t,ds)):∃p vs,v=.ref p/\SqB K x.H p vs t/\DtA K (x.hp L) vs ds:=by
 obtain ⟨⟨t',es⟩,e1,f⟩:=bnd f;obtain ⟨ds',e2,f⟩:=Á.mp f;cases f;obtain ⟨p,vs,rfl,h1,h2⟩:=qip k h e1;exact ⟨p,vs,rfl,h1,h2.datas e2⟩
theorem DtA.app{K:Kc}{H:Hp}:∀{vs ws:List V}{ds es:List Â},DtA K H vs ds->DtA K H ws es->DtA K H (vs++ws) (ds++es)
 |_,_,_,_,.nil,h=>h
 |_,_,_,_,.cons a b,h=>.cons a (b.app h)
theorem DtA.take{K:Kc}{H:Hp}:∀{vs:List V}{ds:List Â} (n:Nat),DtA K H vs ds->DtA K H (vs.take n) (ds.take n)
 |_,_,0,_=>.nil
 |_,_,_+1,.nil=>.nil
 |_,_,n+1,.cons a b=>.cons a (b.take n)
theorem DtA.drop{K:Kc}{H:Hp}:∀{vs:List V}{ds:List Â} (n:Nat),DtA K H vs ds->DtA K H (vs.drop n) (ds.drop n)
 |_,_,0,h=>h
 |_,_,_+1,.nil=>.nil
 |_,_,n+1,.cons _ b=>b.drop n
theorem DtA.rep{K:Kc}{H:Hp}{vs:List V}{ds:List Â}(h:DtA K H vs ds):∀n,DtA K H (Ă n vs).flatten (Ă n ds).flatten
 |0=>.nil
 |n+1=>by rw[δ,δ,flatten_cons,flatten_cons];exact h.app (h.rep n)
theorem DtA.rev{K:Kc}{H:Hp}:∀{vs:List V}{ds:List Â},DtA K H vs ds->DtA K H vs.reverse ds.reverse
 |_,_,.nil=>.nil
 |_,_,.cons a r=>by rw[List.reverse_cons,List.reverse_cons];exact r.rev.app (.cons a .nil)
noncomputable def dG(ds:List Â)(d:Â)(S:OS):Option (DV×OS):=if ds.length<=most then some (.d d,S) else none
theorem yfl(h:dG ds d S=some p):ds.length<=most/\p=(.d d,S):=by
 unfold dG at h;split at h
 ·cases h;exact ⟨by assumption,rfl⟩
 ·cases h
noncomputable def bZ(t:Bool):G2:=λa b S=>(cA a S).bind λp=>(cA b S).bind λq=>if p.1=t/\q.1=t then dG (p.2++q.2) (if t=true then .tuple (p.2++q.2) else .list (p.2++q.2)) S else none
theorem op2_catL:Op2 X (Ń .Add) (bZ false):=⟨_,op_catS,λL x u v du dv r S' Q k hu hv e q=>by
 obtain ⟨⟨t1,d1⟩,e1,e⟩:=bnd e;obtain ⟨⟨t2,d2⟩,e2,e'⟩:=bnd e;clear e;dsimp only at e';split at e'
 ·rename_i z
  obtain ⟨z1,z2⟩:=z;subst z1 z2;obtain ⟨z,e3⟩:=yfl e';cases e3;obtain ⟨p,vs,rfl,g1,a1⟩:=qb1 k hu e1;obtain ⟨p2,vs2,rfl,g2,a2⟩:=qb1 k hv e2;rw[Ó]at z;exact ⟨p,p2,vs,vs2,rfl,rfl,g1,g2,eY (by rw[a1.length,a2.length];exact z),λl n=>q _ (x.up l (.lst (vs++vs2))) (Ex.up n) rfl (k.up n) (cT k n (a1.app a2)).2⟩
 ·cases e'⟩
noncomputable def rCatB(K:Kc):R2:=λx y H Q=>∃a b xs ys,x=.ref a/\y=.ref b/\SqT K.K H a xs/\SqT K.K H b ys/\xs.length+ys.length<=Õ/\(xs=[]->Q (.ref b) H)/\(ys=[]->Q (.ref a) H)/\∀p,H p=none->Q (.ref p) (upd H p (.tup (xs++ys)))
theorem op_catB:OpR X (Ń .Add) (rCatB X.kc):=by
 intro pins s σ H x y v u Q I rx ry h;obtain ⟨a,b,xs,ys,rfl,rfl,ha,hb,hz,q1,q2,q⟩:=h;cases rx;cases ry;obtain ⟨its,r1,p1,_⟩:=I.tuple ha;obtain ⟨its2,r2,p2,_⟩:=I.tuple hb;by_cases hx:xs=[]
 ·obtain ⟨⟨cls,dd,data,sl⟩,ho,hc,n,hd⟩:=id p1;obtain ⟨⟨cls2,dd2,data2,sl2⟩,ho2,hc2,n2,hd2⟩:=id p2;simp only at hc hd hc2 hd2;subst hc hd hc2 hd2;exact concat_meets ⟨_,ho,rfl⟩ ⟨_,ho2,rfl⟩ noFill_tuple_add seq_tuple_add PySem.F.slot_tuple_add ba (aV _ _)
   (tuple_addW0 a b its.toArray its2.toArray n n2 dd dd2 sl sl2 (by rw[r1.nil_iff.mpr hx];rfl)) ⟨ho,ho2,.ref b,H,I,rfl,q1 hx⟩
 ·exact op_catT pins s σ H (.ref a) (.ref b) _ _ Q I rfl rfl ⟨a,b,xs,ys,rfl,rfl,ha,hb,hx,hz,λe=>q2 e,λ_ p hp=>q p hp⟩
theorem op2_catT:Op2 X (Ń .Add) (bZ true):=⟨_,op_catB,λL x u v du dv r S' Q k hu hv e q=>by
 obtain ⟨⟨t1,d1⟩,e1,e⟩:=bnd e;obtain ⟨⟨t2,d2⟩,e2,e'⟩:=bnd e;clear e;dsimp only at e';split at e'
 ·rename_i z
  obtain ⟨z1,z2⟩:=z;subst z1 z2;obtain ⟨z,e3⟩:=yfl e';cases e3;obtain ⟨p,vs,rfl,g1,a1⟩:=qb1 k hu e1;obtain ⟨p2,vs2,rfl,g2,a2⟩:=qb1 k hv e2;have hu':Dt X.kc (x.hp L) (.ref p) (.tuple d1):=by
   obtain ⟨⟨t',es⟩,f1,f2⟩:=bnd e1;obtain ⟨ds',f3,f4⟩:=Á.mp f2;cases f4;unfold sq at f1;split at f1<;>first|(cases f1;rw[eF]at f3;cases f3;exact hu)|(split at f1<;>cases f1)|cases f1
  have hv':Dt X.kc (x.hp L) (.ref p2) (.tuple d2):=by
   obtain ⟨⟨t',es⟩,f1,f2⟩:=bnd e2;obtain ⟨ds',f3,f4⟩:=Á.mp f2;cases f4;unfold sq at f1;split at f1<;>first|(cases f1;rw[eF]at f3;cases f3;exact hv)|(split at f1<;>cases f1)|cases f1
  rw[Ó]at z;refine ⟨p,p2,vs,vs2,rfl,rfl,g1,g2,eY (by rw[a1.length,a2.length];exact z),λzz=>?_,λzz=>?_,λl n=>q _ (x.up l (.tup (vs++vs2))) (Ex.up n) rfl (k.up n) (cT k n (a1.app a2)).1⟩
  ·subst zz;cases a1;exact q _ x Ex.refl rfl k hv'
  ·subst zz;cases a2;refine q _ x Ex.refl rfl k ?_;rw[Ĺ];exact hu'
 ·cases e'⟩
noncomputable def fc:G2:=λa b S=>match a,b with
 |.d (.str i),.d (.str j)=>if i.length+j.length<=most then some (.d (.str (i++j)),S) else none
 |_,_=>none
theorem op2_str:Op2 X (Ń .Add) fc:=⟨_,yhv,λL x u v du dv r S' Q k hu hv e q=>by
 unfold fc at e;split at e
 ·split at e
  ·cases e;cases hu;cases hv;exact ⟨_,_,rfl,rfl,eY (by assumption),q _ x Ex.refl rfl k (.str _)⟩
  ·cases e
 ·cases e⟩
noncomputable def eK(d:Â):Bool:=d.canLay0&&decide (d.depth<=60)
noncomputable def eqG(neg:Bool):G2:=λa b S=>(vw a S).bind λx=>(vw b S).bind λy=>if eK x&&y.canLay0 then some (.d (.bool (xor neg (ì x y))),S) else none
noncomputable def rEqK(K:Kc)(neg:Bool):R2:=λx y H Q=>∃dx dy,Dt K H x dx/\Dt K H y dy/\dx.canLay0=true/\dy.canLay0=true/\dx.depth<=60/\Q (.bl (xor neg (ì dx dy))) H
theorem op_eqK(hr:Room k X.A):OpR X (ĕ .Eq) (rEqK X.kc false):=by
 intro pins s σ H x y v u Q I rx ry h;obtain ⟨dx,dy,h1,h2,c1,c2,hd,q⟩:=h;obtain ⟨as,r1⟩:=h1.reads I rx;obtain ⟨bs,r2⟩:=h2.reads I ry;have hu:=hr.units;rw[Bool.false_xor]at q;exact PySem.SeqAt.rcAt_reads r1 r2 c1 c2 (by have:=Nat.min_le_left dx.depth dy.depth;omega) _ _ _ _ ⟨.bl _,H,I,rfl,q⟩
theorem op_neK(hr:Room k X.A):OpR X (ĕ .NotEq) (rEqK X.kc true):=by
 intro pins s σ H x y v u Q I rx ry h;obtain ⟨dx,dy,h1,h2,c1,c2,hd,q⟩:=h;obtain ⟨as,r1⟩:=h1.reads I rx;obtain ⟨bs,r2⟩:=h2.reads I ry;have hu:=hr.units;rw[Bool.true_xor]at q;exact PySem.SeqAt.rcNeAt_reads r1 r2 c1 c2 (by have:=Nat.min_le_left dx.depth dy.depth;omega) _ _ _ _ ⟨.bl _,H,I,rfl,q⟩
theorem od_eqK:OpD X (rEqK X.kc neg) (eqG neg):=λL x u v du dv r S' Q k hu hv e q=>by
 obtain ⟨d1,e1,e⟩:=bnd e;obtain ⟨d2,e2,e⟩:=bnd e;split at e
 ·rename_i z
  cases e;unfold eK at z;simp only[Å,decide_eq_true_eq]at z;exact ⟨d1,d2,qid k hu e1,qid k hv e2,z.1.1,z.2,z.1.2,q _ x Ex.refl rfl k (.bl _)⟩
 ·cases e
theorem op2_eq(hr:Room k X.A):Op2 X (ĕ .Eq) (eqG false):=⟨_,op_eqK hr,od_eqK⟩
theorem op2_ne(hr:Room k X.A):Op2 X (ĕ .NotEq) (eqG true):=⟨_,op_neK hr,od_eqK⟩
noncomputable def b8:Â->Option (List Â)
 |.list a=>some a
 |.tuple a=>some a
 |_=>none
noncomputable def inG(neg:Bool):G2:=λa b S=>(vw a S).bind λx=>((vw b S).bind b8).bind λys=>if eK x&&PyData.canLayAll0 ys then some (.d (.bool (xor neg (ys.any λy=>ì y x))),S) else none
noncomputable def rInK(K:Kc)(neg:Bool):R2:=λx y H Q=>∃dx ds,Dt K H x dx/\(Dt K H y (.tuple ds)\/Dt K H y (.list ds))/\dx.canLay0=true/\PyData.canLayAll0 ds=true/\dx.depth<=60/\Q (.bl (xor neg (ds.any λy=>ì y dx))) H
theorem op_inK(hr:Room k X.A):OpR X (ĕ .In) (rInK X.kc false):=by
 intro pins s σ H x y v u Q I rx ry h;obtain ⟨dx,ds,h1,h2,c1,c2,hd,q⟩:=h;obtain ⟨as,r1⟩:=h1.reads I rx;have hu:=hr.units;rw[Bool.false_xor]at q;rcases h2 with h2|h2
 ·obtain ⟨bs,r2⟩:=h2.reads I ry;exact PySem.SeqAt.in_tuple_reads r2 r1 c2 c1 (by have:=min_le_right (ŏ ds) dx.depth;omega) ⟨.bl _,H,I,rfl,q⟩
 ·obtain ⟨bs,r2⟩:=h2.reads I ry;exact PySem.SeqAt.in_list_reads r2 r1 c2 c1 (by have:=min_le_right (ŏ ds) dx.depth;omega) ⟨.bl _,H,I,rfl,q⟩
theorem yi6(hr:Room k X.A):OpR X (ĕ .NotIn) (rInK X.kc true):=by
 intro pins s σ H x y v u Q I rx ry h;obtain ⟨dx,ds,h1,h2,c1,c2,hd,q⟩:=h;obtain ⟨as,r1⟩:=h1.reads I rx;have hu:=hr.units;rw[Bool.true_xor]at q;rcases h2 with h2|h2
 ·obtain ⟨bs,r2⟩:=h2.reads I ry;exact PySem.SeqAt.notIn_tuple_reads r2 r1 c2 c1 (by have:=min_le_right (ŏ ds) dx.depth;omega) ⟨.bl _,H,I,rfl,q⟩
 ·obtain ⟨bs,r2⟩:=h2.reads I ry;exact PySem.SeqAt.notIn_list_reads r2 r1 c2 c1 (by have:=min_le_right (ŏ ds) dx.depth;omega) ⟨.bl _,H,I,rfl,q⟩
theorem od_inK:OpD X (rInK X.kc neg) (inG neg):=λL x u v du dv r S' Q k hu hv e q=>by
 obtain ⟨d1,e1,e⟩:=bnd e;obtain ⟨ys,e2,e⟩:=bnd e;obtain ⟨d2,e2,e3⟩:=bnd e2;split at e
 ·rename_i z
  cases e;unfold eK at z;simp only[Å,decide_eq_true_eq]at z;refine ⟨d1,ys,qid k hu e1,?_,z.1.1,z.2,z.1.2,q _ x Ex.refl rfl k (.bl _)⟩;have a2:=qid k hv e2;unfold b8 at e3;split at e3
  ·cases e3;exact .inr a2
  ·cases e3;exact .inl a2
  ·cases e3
 ·cases e
theorem op2_in(hr:Room k X.A):Op2 X (ĕ .In) (inG false):=⟨_,op_inK hr,od_inK⟩
theorem qis(hr:Room k X.A):Op2 X (ĕ .NotIn) (inG true):=⟨_,yi6 hr,od_inK⟩
noncomputable def fE(a:DV):Bool:=match a with
 |.d .none=>true
 |_=>false
noncomputable def isNF(neg:Bool)(f:FE):FE:=λρ S=>(f ρ S).map λp=>(.d (.bool (xor neg (fE p.1))),p.2)
theorem isN_ok{K:Kc}{L:Addr->Prop}{x:Wd}{v:V}{e:DV}(h:Hv K L x v e):decide (v=.non)=fE e:=by
 cases e with
 |d y=>cases h<;>rfl
 |r i=>obtain ⟨a,_,rfl⟩:=h;rfl
variable {a b e:Expr}{f g:FE}{pos:Pos}
theorem de_isN{j pos'}(h:DE X a f):DE X (.Compare a [.Is] [.Constant .none j pos'] pos) (isNF false f)/\DT X (.Compare a [.Is] [.Constant .none j pos'] pos) (ò (isNF false f)):=by
 obtain ⟨t,p1,d1⟩:=h;have d:Dn X.kc (tIsN t) (isNF false f):=λL ρ σ x r S' Q h k rl q=>by
  obtain ⟨⟨r1,S1⟩,e1,h⟩:=Á.mp h;cases h;refine d1 L ρ σ x r1 _ _ e1 k rl λv y ex ey ky hv=>?_;show Q (.bl (decide (v=.non))) y.H;rw[isN_ok hv];refine q _ y ex ey ky ?_;dsimp only;rw[Bool.false_xor];exact .bl _
 exact ⟨⟨_,pe_cmp (pc_isN p1),d⟩,⟨_,pt_cmp (pc_isN p1),qdy d⟩⟩
theorem de_notN{j pos'}(h:DE X a f):DE X (.Compare a [.IsNot] [.Constant .none j pos'] pos) (isNF true f)/\DT X (.Compare a [.IsNot] [.Constant .none j pos'] pos) (ò (isNF true f)):=by
 obtain ⟨t,p1,d1⟩:=h;have d:Dn X.kc (tNotN t) (isNF true f):=λL ρ σ x r S' Q h k rl q=>by
  obtain ⟨⟨r1,S1⟩,e1,h⟩:=Á.mp h;cases h;refine d1 L ρ σ x r1 _ _ e1 k rl λv y ex ey ky hv=>?_;show Q (.bl (!decide (v=.non))) y.H;rw[isN_ok hv];refine q _ y ex ey ky ?_;dsimp only;rw[Bool.true_xor];exact .bl _
 exact ⟨⟨_,pe_cmp (yis p1),d⟩,⟨_,pt_cmp (yis p1),qdy d⟩⟩
noncomputable def ixG:G2:=λa b S=>match b with
 |.d (.int i)=>((sq a S).bind λp=>L2.atI p.2 i).map λe=>(e,S)
 |_=>none
noncomputable def Ix2(X:Cx)(g:G2):Prop:=∃r,IxR X r/\OpD X r g
theorem ix2_or{g h:G2}(a:Ix2 X g)(b:Ix2 X h):Ix2 X (dZ g h):=by
 obtain ⟨r,a1,a2⟩:=a;obtain ⟨r',b1,b2⟩:=b;refine ⟨_,a1.or b1,λL x u v du dv r1 S' Q k hu hv e q=>?_⟩;unfold dZ at e;cases e1:g du dv x.S with
 |some p=>rw[e1]at e;cases e;exact .inl (a2 L x u v du dv r1 S' Q k hu hv e1 q)
 |none=>rw[e1,æ]at e;exact .inr (b2 L x u v du dv r1 S' Q k hu hv e q)
theorem ix2_seq:Ix2 X ixG:=⟨_,ix_list.or ix_tup,λL x u v du dv r S' Q k hu hv e q=>by
 unfold ixG at e;split at e
 ·obtain ⟨d,e1,e2⟩:=Á.mp e;cases e2;obtain ⟨⟨t,es⟩,e3,e4⟩:=bnd e1;obtain ⟨p,vs,rfl,g1,a1⟩:=qip k hu e3;obtain ⟨w,h1,h2⟩:=a1.atI e4;cases hv;cases t with
  |true=>exact .inr ⟨p,vs,_,w,rfl,rfl,g1,h1,q w x Ex.refl rfl k h2⟩
  |false=>exact .inl ⟨p,vs,_,w,rfl,rfl,g1,h1,q w x Ex.refl rfl k h2⟩
 ·cases e⟩
noncomputable def ye1:G2:=λa b S=>match a,b with
 |.d (.str z),.d (.int i)=>if z.length<=most then (L2.atI z.cps.toList i).map λc=>(.d (.str ⟨#[c]⟩),S) else none
 |_,_=>none
theorem ix2_str:Ix2 X ye1:=⟨_,ix_str,λL x u v du dv r S' Q k hu hv e q=>by
 unfold ye1 at e;split at e
 ·split at e
  ·obtain ⟨c,e1,e2⟩:=Á.mp e;cases e2;cases hu;cases hv;exact ⟨_,_,c,rfl,rfl,eY (by assumption),e1,q _ x Ex.refl rfl k (.str _)⟩
  ·cases e
 ·cases e⟩
noncomputable def qbk:Expr->Bool
 |.Slice _ _ _ _=>false
 |_=>true
theorem yd9(h:qbk b=true):qjm b:=λo i=>by
 cases b<;>first|rfl|cases h
theorem de_ix(ho:Ix2 X g2)(h1:DE X a f)(h2:DE X b g)(hs:qbk b=true):DE X (.Subscript a b pos) (ß g2 f g):=by
 obtain ⟨r,o1,o2⟩:=ho;obtain ⟨t,p1,d1⟩:=h1;obtain ⟨u,p2,d2⟩:=h2;exact ⟨_,pe_ix o1 p1 p2 (yd9 hs),dn_op o2 d1 d2⟩
end
end Dp
namespace Dp
open PySem L2 PyProof.Rows Mx
section
variable {X:Cx}{e a b:Expr}{es:List Expr}{f g:FE}{fa:FA}{ft gt:FT}{fs gs:FS}{pos p:Pos}{st:Stmt}{rest:List Stmt}
noncomputable def ô:FS:=λρ S=>some (.nx ρ,S)
noncomputable def bT(q:Out×OS)(k:DEnv->OS->Option (Out×OS)):Option (Out×OS):=match q.1 with
 |.nx ρ=>k ρ q.2
 |.rt d=>some (.rt d,q.2)
noncomputable def Ï(f g:FS):FS:=λρ S=>(f ρ S).bind λq=>bT q g
theorem db_nil:DB X [] ô:=⟨_,pss_nil,λL ρ σ x r S' D h k rl q=>by cases h;exact q σ x Ex.refl rfl k rl⟩
theorem db_cons(h1:DS X st fs)(h2:DB X rest gs):DB X (st::rest) (Ï fs gs):=by
 obtain ⟨t,p1,d1⟩:=h1;obtain ⟨u,p2,d2⟩:=h2;refine ⟨_,pss_cons p1 p2,λL ρ σ x r S' D h k rl q=>?_⟩;obtain ⟨⟨o,S1⟩,e1,h⟩:=bnd h;refine d1 L ρ σ x o S1 _ e1 k rl ?_;cases o with
 |nx ρ'=>exact λσ' y ex ey ky ry=>by subst ey;exact d2 L ρ' σ' y r S' D h ky ry (q.ex ex)
 |rt d=>cases h;exact q
noncomputable def Ć(f:FE):FS:=λρ S=>(f ρ S).map λp=>(.rt p.1,p.2)
theorem ds_ret(h:DE X e f):DS X (.Return (some e) pos) (Ć f):=by
 obtain ⟨t,p1,d1⟩:=h;refine ⟨_,ps_ret p1,λL ρ σ x r S' D h k rl q=>?_⟩;obtain ⟨⟨o,S1⟩,e1,h⟩:=Á.mp h;cases h;exact d1 L ρ σ x o _ _ e1 k rl q
theorem ds_retN:DS X (.Return none pos) (Ć (cF .none)):=⟨_,ps_retN,λL ρ σ x r S' D h k rl q=>by cases h;exact q .non x Ex.refl rfl k .non⟩
theorem ds_pass:DS X (.Pass pos) ô:=⟨_,ps_pass,λL ρ σ x r S' D h k rl q=>by cases h;exact q σ x Ex.refl rfl k rl⟩
noncomputable def Ĥ(c:FT)(f g:FS):FS:=λρ S=>(c ρ S).bind λp=>if p.1=true then f ρ p.2 else g ρ p.2
theorem ds_if(hc:DT X c ft)(h1:DB X sa fs)(h2:DB X sb gs):DS X (.If c sa sb pos) (Ĥ ft fs gs):=by
 obtain ⟨t,p1,d1⟩:=hc;obtain ⟨u,p2,d2⟩:=h1;obtain ⟨w,p3,d3⟩:=h2;refine ⟨_,ps_if p1 p2 p3,λL ρ σ x r S' D h k rl q=>?_⟩;obtain ⟨⟨c1,S1⟩,e1,h⟩:=bnd h;refine d1 L ρ σ x c1 S1 _ e1 k rl λy ex ey ky=>?_;subst ey;cases c1 with
 |true=>exact fB (d2 L ρ σ y r S' D h ky (rl.ex ex) (q.ex ex))
 |false=>exact fC (d3 L ρ σ y r S' D h ky (rl.ex ex) (q.ex ex))
noncomputable def ř(f:FE):FS:=λρ S=>(f ρ S).map λp=>(.nx ρ,p.2)
noncomputable def eW:Expr->Bool
 |.ListComp ..|.SetComp ..|.DictComp ..=>false
 |_=>true
theorem qj6(h:eW e=true):swapsWith e tg n env=pure false:=by
 cases e<;>first|rfl|cases h
theorem ds_expr(hn:eW e=true)(h:DE X e f):DS X (.Expr e pos) (ř f):=by
 obtain ⟨t,p1,d1⟩:=h;refine ⟨_,ps_expr p1 (qj6 hn),λL ρ σ x r S' D h k rl q=>?_⟩;obtain ⟨⟨o,S1⟩,e1,h⟩:=Á.mp h;cases h;exact d1 L ρ σ x o _ _ e1 k rl λv y ex ey ky hv=>q σ y ex ey ky (rl.ex ex)
noncomputable abbrev FG:=DV->DEnv->OS->Option DEnv
noncomputable def KpO(is:List Nat)(σ σ':L2.St):Prop:=σ'.length=σ.length/\∀j,j∉is->σ'[j]?=σ[j]?
noncomputable def DnG(K:Kc)(g:TG)(is:List Nat)(f:FG):Prop:=∀L ρ σ x v d ρ' (Q:L2.St->Hp->Prop),f d ρ x.S=some ρ'->Ok K L x->Rl K L x σ ρ->Hv K L x v d->(∀σ',KpO is σ σ'->Rl K L x σ' ρ'->Q σ' x.H)->g v σ x.H Q
noncomputable def DG(X:Cx)(e:Expr)(is:List Nat)(f:FG):Prop:=∃g,PG X e g/\DnG X.kc g is f
theorem KpO.one:KpO [i] σ (σ.set i v):=⟨Ł,λj h=>í λz=>h (by rw[z];exact mem_singleton.mpr rfl)⟩
theorem KpO.add(h:KpO is (σ.set i v) σ'):KpO (i::is) σ σ':=⟨by rw[h.1,Ł],λj n=>by rw[h.2 j λz=>n (Ê _ z),í λz=>n (by rw[z];exact Ì)]⟩
noncomputable def Đ(i:Nat):FG:=λd ρ _=>some (ρ.set i (some d))
structure Wr(X:Cx)(i:Nat)(x:Str):Prop where
 nd:X.N.Nodup
 at_:X.N[i]?=some x
 loc:Loc X.env.scope x
 fn:X.fn x=true\/X.env.scope.names.lookup x=some .local
theorem dn_nm{K:Kc}{i:Nat}:DnG K (gName i) [i] (Đ i):=λL ρ σ x v d ρ' Q e k rl hv q=>by
 cases e;exact q _ KpO.one (rl.set hv)
theorem dg_name(h:Wr X i x):DG X (.Name x pos) [i] (Đ i):=⟨_,qjc h.nd h.at_ h.loc h.fn,dn_nm⟩
noncomputable def setA:List Nat->List DV->DEnv->Option DEnv
 |[],[],ρ=>some ρ
 |i::is,d::ds,ρ=>setA is ds (ρ.set i (some d))
 |_,_,_=>none
noncomputable def bN(is:List Nat):FG:=λd ρ S=>(sq d S).bind λp=>if p.1=true then setA is p.2 ρ else none
theorem dgs:∀(ts:List (Nat×Str×Pos)),(∀t∈ts,Wr X t.1 t.2.1)->∃g:TGs,PGs X (ts.map λt=>.Name t.2.1 t.2.2) g/\∀L ρ σ x vs ds ρ' (Q:L2.St->Hp->Prop),setA (ts.map (·.1)) ds ρ=some ρ'->Ok X.kc L x->Rl X.kc L x σ ρ->HvA X.kc L x vs ds->(∀σ',KpO (ts.map (·.1)) σ σ'->Rl X.kc L x σ' ρ'->Q σ' x.H)->g vs σ x.H Q
 |[],_=>⟨_,pgs_nil,λL ρ σ x vs ds ρ' Q e k rl hv q=>by
   cases hv with
   |nil=>cases e;exact ⟨rfl,q σ ⟨rfl,λ_ _=>rfl⟩ rl⟩
   |cons _ _=>cases e⟩
 |⟨i,x,ps⟩ :: ts,h=>by
  obtain ⟨g,p1,d1⟩:=dgs ts λt ht=>h t (Ê _ ht);have w:=h _ Ì;refine ⟨_,pgs_cons (qjc w.nd w.at_ w.loc w.fn) p1 rfl,λL ρ σ x vs ds ρ' Q e k rl hv q=>?_⟩;cases hv with
  |nil=>cases e
  |cons a t=>exact ⟨_,_,rfl,d1 L _ _ x _ _ ρ' Q e k (rl.set a) t λσ' kp=>q σ' kp.add⟩
theorem ydi:∀(ts:List (Nat×Str×Pos)) (env:Env),(Μ (ts.map λt=>Expr.Name t.2.1 t.2.2) env).length=ts.length/\(Μ (ts.map λt=>Expr.Name t.2.1 t.2.2) env).findIdx? (·.1)=none
 |[],_=>⟨rfl,rfl⟩
 |⟨i,x,p⟩ :: ts,env=>by
  obtain ⟨h1,h2⟩:=ydi ts env;refine ⟨congrArg (· + 1) h1,?_⟩;show List.findIdx? (·.1) ((false,assign (.Name x p) env)::Μ (ts.map λt=>Expr.Name t.2.1 t.2.2) env)=none;rw[List.findIdx?_cons,h2];rfl
theorem dg_tup{ts:List (Nat×Str×Pos)}{j:Nat}(hc:X.calm=true)(h:∀t∈ts,Wr X t.1 t.2.1):DG X (.Tuple (ts.map λt=>.Name t.2.1 t.2.2) j pos) (ts.map (·.1)) (bN (ts.map (·.1))):=by
 obtain ⟨g,p1,d1⟩:=dgs ts h;refine ⟨_,pg_tup hc p1 (ydi ts _).1 (ydi ts _).2,λL ρ σ x v d ρ' Q e k rl hv q=>?_⟩;obtain ⟨⟨t,es⟩,e1,e⟩:=bnd e;dsimp only at e;split at e
 ·rename_i z
  subst z;obtain ⟨p,vs,rfl,h1,h2⟩:=qip k hv e1;refine ⟨p,vs,rfl,h1,?_,d1 L ρ σ x vs es ρ' Q e k rl h2 q⟩;rw[h2.length];clear e1 h2 h1 hv p1 d1 q rl;have:∀(is:List Nat) (ds:List DV) (ρ:DEnv),setA is ds ρ=some ρ'->ds.length=is.length:=by
   intro is;induction is with
   |nil=>intro ds ρ h;cases ds with|nil=>rfl|cons _ _=>cases h
   |cons i is ih=>intro ds ρ h;cases ds with|nil=>cases h|cons d ds=>exact congrArg (· + 1) (ih ds _ h)
  rw[this _ _ _ e,Ð]
 ·cases e
noncomputable def Č(f:FE)(g:FG):FS:=λρ S=>(f ρ S).bind λp=>(g p.1 ρ p.2).map λρ'=>(.nx ρ',p.2)
theorem qgx(d1:Dn X.kc te f)(d2:DnG X.kc tg is fg):DnS X.kc (tAsg te tg) (Č f fg):=λL ρ σ x r S' D h k rl q=>by
 obtain ⟨⟨o,S1⟩,e1,h⟩:=bnd h;obtain ⟨ρ',e2,h⟩:=Á.mp h;cases h;refine d1 L ρ σ x o _ _ e1 k rl λv y ex ey ky hv=>?_;subst ey;exact d2 L ρ σ y v o ρ' _ e2 ky (rl.ex ex) hv λσ' _ r'=>q σ' y ex rfl ky r'
theorem ds_set{i:Nat}{x:Str}{pos':Pos}(hw:Wr X i x)(hn:eW e=true)(h:DE X e f):DS X (.Assign [.Name x pos'] e pos) (Č f (Đ i)):=by
 obtain ⟨t,p1,d1⟩:=h;exact ⟨_,ps_set hw.nd hw.at_ hw.loc p1 (qj6 hn) hw.fn,qgx d1 dn_nm⟩
noncomputable def noTup:Expr->Bool
 |.Tuple ..=>false
 |_=>true
theorem ds_asg{ts:List (Nat×Str×Pos)}{j:Nat}{p':Pos}(hc:X.calm=true)(hw:∀t∈ts,Wr X t.1 t.2.1)(hn:eW e=true)(ht:noTup e=true)(h:DE X e f):DS X (.Assign [.Tuple (ts.map λt=>.Name t.2.1 t.2.2) j p'] e pos) (Č f (bN (ts.map (·.1)))):=by
 obtain ⟨t,p1,d1⟩:=h;obtain ⟨g,p2,d2⟩:=dg_tup (pos:=p') (j:=j) hc hw;exact ⟨_,ps_asg p1 p2 (by unfold swapsWithSole;exact qj6 hn) (by cases e<;>first|rfl|cases ht) rfl,qgx d1 d2⟩
noncomputable def ItD(K:Kc)(L:Addr->Prop)(J:It)(es:List DV)(y:Wd):Prop:=∀L2 z,(∀b,L2 b->L b\/y.H b=none)->Ex y z->Ok K L2 z->J.stop es.length z.H/\∀(i:Nat) e,es[i]?=some e->J.go i z.H/\∀v H',J.yld i z.H v H'->∃z',z'.H=H'/\Ex z z'/\z'.S=z.S/\Ok K L2 z'/\Hv K L2 z' v e
theorem Ex.sameL(a:Ex x y)(h:∀b,L2 b->L b\/x.H b=none):Same (x.hp L) (y.hp L2):=yas λb u n e=>by
 obtain ⟨h1,h2⟩:=a.kp b u (λz=>n (.inr z)) e;refine ⟨h1,λz=>z.elim (λz=>(h b z).elim (λz=>n (.inl z)) λz=>?_) h2⟩;rw[z]at e;cases e
noncomputable def DnI(K:Kc)(wi:TI)(f:FA):Prop:=∀L ρ σ x es S' (R:It->Hp->Prop),f ρ x.S=some (es,S')->Ok K L x->Rl K L x σ ρ->(∀J y,Ex x y->y.S=S'->Ok K L y->ItD K L J es y->R J y.H)->wi σ x.H R
noncomputable def DI(X:Cx)(tg iter:Expr)(f:FA):Prop:=∃wi,PI X tg iter wi/\DnI X.kc wi f
noncomputable def Ľ(tg:FG)(fb:FS):List DV->DEnv->OS->Option (Out×OS)
 |[],ρ,S=>some (.nx ρ,S)
 |e::es,ρ,S=>(tg e ρ S).bind λρ'=>(fb ρ' S).bind λq=>bT q (Ľ tg fb es)
noncomputable def ņ(fi:FA)(tg:FG)(fb:FS):FS:=λρ S=>(fi ρ S).bind λp=>Ľ tg fb p.1 ρ p.2
theorem dn_for(d1:DnI X.kc wi fi)(d2:DnG X.kc tg is fg)(d3:DnS X.kc ts fs):DnS X.kc (tFor wi tg ts) (ņ fi fg fs):=λL ρ σ x r S' D h k rl q=>by
 obtain ⟨⟨es,S1⟩,e1,h⟩:=bnd h;refine d1 L ρ σ x es S1 _ e1 k rl λJ y ex ey ky it=>?_;subst ey;refine for_by (n:=es.length) (λn σ' H'=>∃z ρ',z.H=H'/\Ex y z/\Ok X.kc L z/\Rl X.kc L z σ' ρ'/\Ľ fg fs (es.drop n) ρ' z.S=some (r,S')) ⟨y,ρ,rfl,Ex.refl,ky,rl.ex ex,h⟩ ?_ ?_
 ·rintro σ' H' ⟨z,ρ',rfl,ez,kz,rz,h'⟩;rw[List.drop_eq_nil_of_le (Ò _)]at h';cases h';exact ⟨(it L z (λ_ h=>.inl h) ez kz).1,q σ' z (ex.trans ez) rfl kz rz⟩
 ·rintro n σ' H' hn ⟨z,ρ',rfl,ez,kz,rz,h'⟩;rw[List.drop_eq_getElem_cons hn]at h';obtain ⟨ρ2,e2,h'⟩:=bnd h';obtain ⟨⟨o,S2⟩,e3,h'⟩:=bnd h';obtain ⟨hgo,hy⟩:=(it L z (λ_ h=>.inl h) ez kz).2 n es[n] (Í hn);refine ⟨hgo,λv H2 yl=>?_⟩;obtain ⟨z',rfl,ez',eS,kz',hv⟩:=hy v H2 yl;rw[<-eS]at e2 e3;refine d2 L ρ' σ' z' v es[n] ρ2 _ e2 kz' (rz.ex ez') hv λσ2 _ r2=>?_;refine d3 L ρ2 σ2 z' o S2 _ e3 kz' r2 ?_;cases o with
  |nx ρ3=>exact λσ3 w ew eSw kw rw'=>⟨w,ρ3,rfl,(ez.trans ez').trans ew,kw,rw',by rw[eSw];exact h'⟩
  |rt d=>cases h';exact λv' w ew eSw kw hw=>q v' w ((ex.trans (ez.trans ez')).trans ew) eSw kw hw
noncomputable def yek:Expr->Bool
 |.Set ..=>false
 |_=>true
theorem qf2(h:yek iter=true):∀x,foldedSetIterable iter env x=pure x:=λx=>by
 cases iter<;>first|rfl|cases h
theorem ds_for(hp:PassesOwn (model X.prog X.w) X.A X.env X.xe)(hc:X.calm=true)(h1:DI X tg iter fi)(h2:DG X tg is fg)(h3:DB X body fs)(hs:yek iter=true):DS X (.For tg iter body [] pos) (ņ fi fg fs):=by
 obtain ⟨t,p1,d1⟩:=h1;obtain ⟨u,p2,d2⟩:=h2;obtain ⟨w,p3,d3⟩:=h3;exact ⟨_,ps_for hp hc p1 p2 p3 (qf2 hs),dn_for d1 d2 d3⟩
noncomputable def Ų(f:FE):FA:=λρ S=>(f ρ S).bind λp=>wk p.1 p.2
theorem yi1{K:Kc}{L L2:Addr->Prop}{y z:Wd}{vs:List V}{es:List DV}(ez:Ex y z)(hv:HvA K L y vs es)(hs:Same (y.hp L) (z.hp L2)):HvA K L2 z vs es:=hv.imp λv e q=>by
 cases e with
 |d c=>exact Dt.same hs q
 |r i=>obtain ⟨a,h1,h2⟩:=q;exact ⟨a,ez.pre i a h1,h2⟩
theorem it_lst{K:Kc}{L:Addr->Prop}{y:Wd}{a:Addr}{vs:List V}{ds:List DV}(h:y.hp L a=some (.lst vs))(hv:HvA K L y vs ds):ItD K L (Itl K.K a) ds y:=λL2 z hl ez kz=>by
 have h2:SqL K.K z.H a vs:=cp (bJ _ _ (ez.sameL hl _ _ h));have a2:HvA K L2 z vs ds:=yi1 ez hv (ez.sameL hl);refine ⟨⟨vs,h2,by rw[a2.length];exact Ò _⟩,λi e hi=>?_⟩;obtain ⟨v,g1,g2⟩:=a2.get hi;refine ⟨⟨vs,v,h2,g1⟩,λw H' yl=>?_⟩;obtain ⟨rfl,yl⟩:=yl;have:=yl vs h2;rw[g1]at this;cases this;exact ⟨z,rfl,Ex.refl,rfl,kz,g2⟩
theorem it_tup{K:Kc}{L:Addr->Prop}{y:Wd}{a:Addr}{vs:List V}{ds:List DV}(h:SqT K.K (y.hp L) a vs)(hv:HvA K L y vs ds):ItD K L (Itt K.K a) ds y:=λL2 z hl ez kz=>by
 have h2:SqT K.K z.H a vs:=SqT.same bJ (SqT.same (ez.sameL hl) h);have a2:HvA K L2 z vs ds:=yi1 ez hv (ez.sameL hl);refine ⟨⟨vs,h2,by rw[a2.length];exact Ò _⟩,λi e hi=>?_⟩;obtain ⟨v,g1,g2⟩:=a2.get hi;refine ⟨⟨vs,v,h2,g1⟩,λw H' yl=>?_⟩;obtain ⟨rfl,yl⟩:=yl;have:=yl vs h2;rw[g1]at this;cases this;exact ⟨z,rfl,Ex.refl,rfl,kz,g2⟩
theorem di_seq(h:DE X e f):DI X tg e (Ų f):=by
 obtain ⟨t,p1,d1⟩:=h;refine ⟨_,pi_seq p1,λL ρ σ x es S' R h k rl q=>?_⟩;obtain ⟨⟨o,S1⟩,e1,h⟩:=bnd h;refine d1 L ρ σ x o S1 _ e1 k rl λv y ex ey ky hv=>?_;subst ey;obtain ⟨x2,k2,p,vs,rfl,g|g,a2⟩:=wk_ok ky hv h
 ·exact ⟨_,_,rfl,.inr ⟨rfl,_,SqT.same bJ g⟩,q _ { y with S:=S' } (ex.trans x2) rfl k2 (it_tup g a2)⟩
 ·exact ⟨_,_,rfl,.inl ⟨rfl,_,cp (bJ _ _ g)⟩,q _ { y with S:=S' } (ex.trans x2) rfl k2 (it_lst g a2)⟩
end
end Dp
namespace Dp
open PySem L2 PyProof.Rows Mx
section
variable {K:Kc}{L L':Addr->Prop}{x y:Wd}
theorem ygb(h:∀b,L b->L' b):Same (x.hp L') (x.hp L):=yas λb u n e=>⟨e,λz=>n (z.elim (λz=>.inl (h b z)) .inr)⟩
theorem Hv.less(a:Hv K L' x v e)(h:∀b,L b->L' b):Hv K L x v e:=by
 cases e with
 |d w=>exact Dt.same (ygb h) a
 |r i=>exact a
theorem Ho.less(q:Ho K L' x a o)(h:∀b,L b->L' b):Ho K L x a o:=q.imp (λ_ e=>e) (ygb h) λ_ _ q=>q.less h
theorem Ok.less(k:Ok K L' x)(h:∀b,L b->L' b):Ok K L x:=⟨k.len,k.nd,λa ha z=>k.dis a ha (h a z),λa z=>k.liv a (z.elim (λz=>.inl (h a z)) .inr),λi o a h1 h2=>(k.obj i o a h1 h2).less h⟩
theorem yjj(n:x.H D=none):Same (x.hp L) ((x.up D u).hp λb=>L b\/b=D):=yas λb u' nb eb=>by
 have ne:b≠D:=λz=>by rw[z,n]at eb;cases eb
 exact ⟨by show upd x.H D u b=some u';rw[Δ ne];exact eb,λz=>nb (z.elim (λz=>z.elim .inl λz=>absurd z ne) .inr)⟩
theorem Hv.more(a:Hv K L x v e)(n:x.H D=none):Hv K (λb=>L b\/b=D) (x.up D u) v e:=by
 cases e with
 |d w=>exact Dt.same (yjj n) a
 |r i=>exact a
theorem Ok.more(k:Ok K L x)(n:x.H D=none):Ok K (λb=>L b\/b=D) (x.up D u):=by
 have ne:∀a,x.H a≠none->upd x.H D u a=x.H a:=λa h=>Δ λz=>h (by rw[z];exact n);refine ⟨k.len,k.nd,λa ha z=>z.elim (k.dis a ha) λz=>k.liv a (.inr ha) (by rw[z];exact n),λa z=>?_,λi o a h1 h2=>?_⟩
 ·show upd x.H D u a≠none;by_cases e:a=D
  ·rw[e,bB];simp
  ·rw[Δ e];exact k.liv a (z.elim (λz=>z.elim .inl λz=>absurd z e) .inr)
 ·have h:=k.obj i o a h1 h2;have s:Same (x.hp L) ((x.up D u).hp λb=>L b\/b=D):=yjj n;exact h.imp (λw e=>by show upd x.H D u a=some w;rw[ne a (k.liv a (.inr (ć h2)))];exact e) s λ_ _ q=>q.more n
theorem yi9(h:L D):(x.up D u).hp L=x.hp L:=by
 funext b;show hide (λb=>L b\/x.Lv b) (upd x.H D u) b=hide (λb=>L b\/x.Lv b) x.H b;unfold hide;dsimp only;by_cases z:L b\/x.Lv b
 ·rw[if_pos z,if_pos z]
 ·rw[if_neg z,if_neg z,Δ (λe=>z (.inl (by rw[e];exact h)))]
theorem Hv.poke(a:Hv K L x v e)(h:L D):Hv K L (x.up D u) v e:=by
 cases e with
 |d w=>show Dt K ((x.up D u).hp L) v w;rw[yi9 h];exact a
 |r i=>exact a
theorem HvA.poke(a:HvA K L x vs es)(h:L D):HvA K L (x.up D u) vs es:=by
 induction a with
 |nil=>exact .nil
 |cons a _ ih=>exact .cons (a.poke h) ih
theorem Ok.poke(k:Ok K L x)(h:L D):Ok K L (x.up D u):=by
 refine ⟨k.len,k.nd,k.dis,λa z=>?_,λi o a h1 h2=>?_⟩
 ·show upd x.H D u a≠none;by_cases e:a=D
  ·rw[e,bB];simp
  ·rw[Δ e];exact k.liv a z
 ·have ea:upd x.H D u a=x.H a:=Δ λz=>k.dis a (ć h2) (by rw[z];exact h);exact (k.obj i o a h1 h2).imp (λw e=>by show upd x.H D u a=some w;rw[ea];exact e) (by rw[yi9 h];exact smR _) λ_ _ q=>q.poke h
end
section
variable {X:Cx}{elt tg iter:Expr}{ifs:List Expr}{scope:Scope}{pos:Pos}{f:FE}{ft:FT}{fi:FA}{fg:FG}{is:List Nat}
noncomputable def b4(ix:List (Option Nat))(ρ:DEnv):DEnv:=ix.map λo=>match o with
 |none=>none
 |some j=>(ρ[j]?).getD none
noncomputable def bf(fg:FG)(ft:FT)(f:FE)(ρ:DEnv):List DV->OS->Option (List DV×OS)
 |[],S=>some ([],S)
 |e::es,S=>(fg e ρ S).bind λρ'=>(ft ρ' S).bind λp=>if p.1=true then (f ρ' p.2).bind λq=>(bf fg ft f ρ es q.2).bind λr=>some (q.1::r.1,r.2) else bf fg ft f ρ es p.2
noncomputable def mkL(own:Bool)(es:List DV)(S:OS):Option (DV×OS):=if es.length<=most then (if own=true then none else (d8 es S).map λq=>(DV.d (.list q.1),q.2)).or (some (.r S.length,S++[.lst es])) else none
noncomputable def Į(own:Bool)(ix:List (Option Nat))(fi:FA)(fg:FG)(ft:FT)(f:FE):FE:=λρ S=>(fi ρ S).bind λp=>(bf fg ft f (b4 ix ρ) p.1 p.2).bind λq=>mkL own q.1 q.2
theorem adopt{K:Kc}{L:Addr->Prop}{y w:Wd}{D:Addr}{vs:List V}{es:List DV}{own:Bool}{r:DV}{S':OS}(nL:¬ L D)(nD:y.H D=none)(ew:Ex y w)(kw:Ok K (λb=>L b\/b=D) w)(eD:w.H D=some (.lst vs))(aw:HvA K (λb=>L b\/b=D) w vs es)(h:mkL own es w.S=some (r,S')) :
  ∃z,z.H=w.H/\Ex y z/\z.S=S'/\Ok K L z/\Hv K L z (.ref D) r:=by
 have hLD:∀b,L b->(L b\/b=D):=λb h=>.inl h;have hφ:∀i,w.φ[i]?≠some D:=λi e=>kw.dis D (ć e) (.inr rfl);unfold mkL at h;split at h
 ·cases e0:(if own=true then none else (d8 es w.S).map λq=>(DV.d (.list q.1),q.2)) with
  |none=>
   rw[e0,æ]at h;cases h;have exw:Ex w ⟨w.φ++[D],w.S++[.lst es],w.H⟩->Ex y ⟨w.φ++[D],w.S++[.lst es],w.H⟩:=λe=>ew.trans e;have lvo:∀b,Wd.Lv ⟨w.φ++[D],w.S++[.lst es],w.H⟩ b->w.Lv b\/b=D:=by
    rintro b ⟨j,q,g1,g2,g3⟩;rcases cP (show (w.φ++[D])[j]?=some b from g1) with g1|⟨_,rfl⟩
    ·rcases cP (show (w.S++[OD.lst es])[j]?=some q from g2) with g2|⟨z,_⟩
     ·exact .inl ⟨j,q,g1,g2,g3⟩
     ·have:=(É.mp g1).1;rw[kw.len]at this;omega
    ·exact .inr rfl
   have sm:Same (w.hp λb=>L b\/b=D) (Wd.hp L ⟨w.φ++[D],w.S++[.lst es],w.H⟩):=yas λb u n e=>⟨e,λz=>n (z.elim (λz=>.inl (.inl z)) λz=>(lvo b z).elim .inr λz=>.inl (.inr z))⟩;have hv:∀v e,Hv K (λb=>L b\/b=D) w v e->Hv K L ⟨w.φ++[D],w.S++[.lst es],w.H⟩ v e:=λv e q=>by
    cases e with
    |d c=>exact Dt.same sm q
    |r i=>obtain ⟨a,h1,h2⟩:=q;exact ⟨a,ybd h1,h2⟩
   refine ⟨⟨w.φ++[D],w.S++[.lst es],w.H⟩,rfl,⟨λi a e=>ybd (ew.pre i a e),λb u n e=>⟨(ew.kp b u n e).1,λz=>(lvo b z).elim (ew.kp b u n e).2 λz=>by rw[z,nD]at e;cases e⟩,ew.al,λi a h g=>(cP (show (w.φ++[D])[i]?=some a from h)).elim (λh=>ew.fr i a h g) λh=>by rw[h.2];exact nD⟩,rfl,⟨?_,?_,λa ha z=>?_,λb z=>?_,λi o a h1 h2=>?_⟩,D,?_,rfl⟩
   ·show (w.φ++[D]).length=(w.S++[OD.lst es]).length;rw[Ó,Ó,kw.len];rfl
   ·show (w.φ++[D]).Nodup;rw[nodup_append];exact ⟨kw.nd,by simp,λa ha b hb z=>by rw[ê.mp hb]at z;exact kw.dis a ha (.inr z)⟩
   ·rcases ŀ.mp ha with ha|ha
    ·exact kw.dis a ha (.inl z)
    ·rw[ê.mp ha]at z;exact nL z
   ·rcases z with z|z
    ·exact kw.liv b (.inl (.inl z))
    ·rcases ŀ.mp z with z|z
     ·exact kw.liv b (.inr z)
     ·rw[ê.mp z];exact kw.liv D (.inl (.inr rfl))
   ·rcases cP (show (w.S++[OD.lst es])[i]?=some o from h1) with h1|⟨zi,rfl⟩
    ·rcases cP (show (w.φ++[D])[i]?=some a from h2) with h2|⟨z,_⟩
     ·exact (kw.obj i o a h1 h2).imp (λ_ e=>e) sm hv
     ·have:=(É.mp h1).1;rw[<-kw.len]at this;omega
    ·rcases cP (show (w.φ++[D])[i]?=some a from h2) with h2|⟨_,rfl⟩
     ·have:=(É.mp h2).1;rw[kw.len]at this;omega
     ·exact ⟨vs,eD,aw.imp hv⟩
   ·show (w.φ++[D])[w.S.length]?=some D;rw[<-kw.len,aH]
  |some o=>
   rw[e0]at h;cases h;split at e0
   ·cases e0
   obtain ⟨⟨ds,S2⟩,e2,h⟩:=Á.mp e0;cases h;obtain ⟨x2,k2,a2⟩:=qgq kw aw e2;refine ⟨{ w with S:=S2 },rfl,ew.trans x2,rfl,k2.less hLD,.lst ((qce λzz=>?_).trans eD) (a2.same (ygb hLD))⟩;rcases zz with zz|⟨i,o,g1,_⟩
   ·exact nL zz
   ·exact hφ i g1
 ·cases h
theorem Rl.cap{K:Kc}{L:Addr->Prop}{x:Wd}{σ:L2.St}{ρ:DEnv}{ix:List (Option Nat)}(r:Rl K L x σ ρ):Rl K L x (Λ ix σ) (b4 ix ρ):=by
 refine ⟨by simp[Λ,b4],λi d h=>?_⟩;unfold b4 at h;unfold Λ;rw[Ĉ]at h ⊢;cases e:ix[i]? with
 |none=>rw[e]at h;cases h
 |some o=>
  rw[e]at h;cases o with
  |none=>cases h
  |some j=>
   have h':(ρ[j]?).getD none=some d:=ď h;cases e2:ρ[j]? with
   |none=>rw[e2]at h';cases h'
   |some o'=>
    rw[e2]at h';cases (show o'=some d from h');obtain ⟨v,h1,h2⟩:=r.2 j d e2;refine ⟨v,?_,h2⟩;show some ((σ[j]?).getD none)=_;rw[h1];rfl
theorem yi3(hix:∀i∈is,ix[i]?=some none)(d1:DnI X.kc wi fi)(d2:DnG X.kc g is fg)(d3:DnT X.kc tt ft)(d4:Dn X.kc te f):Dn X.kc (tComp wi ix g tt te) (Į own ix fi fg ft f):=λL ρ σ x r S' Q h k rl q=>by
 obtain ⟨⟨es,S1⟩,e1,h⟩:=bnd h;obtain ⟨⟨ds,S2⟩,e2,h⟩:=bnd h;have z:ds.length<=most:=by
  unfold mkL at h;split at h
  ·assumption
  ·cases h
 refine d1 L ρ σ x es S1 _ e1 k rl λJ y ex ey ky it=>λD nD=>?_;subst ey;have nL:¬ L D:=λz=>ky.liv D (.inl z) nD;have hL2:∀b,(L b\/b=D)->L b\/y.H b=none:=λb h=>h.imp id λz=>by rw[z];exact nD
 refine comp_by (n:=es.length) (λn H'=>∃w vs ds1 ds2,w.H=H'/\Ex y w/\Ok X.kc (λb=>L b\/b=D) w/\H' D=some (.lst vs)/\HvA X.kc (λb=>L b\/b=D) w vs ds1/\bf fg ft f (b4 ix ρ) (es.drop n) w.S=some (ds2,S2)/\ds=ds1++ds2) ⟨y.up D (.lst []),[],[],ds,rfl,Ex.up nD,ky.more nD,bB,.nil,e2,rfl⟩ ?_ ?_
 ·rintro H' ⟨w,vs,ds1,ds2,rfl,ew,kw,eD,aw,ec,rfl⟩;rw[List.drop_eq_nil_of_le (Ò _)]at ec;obtain ⟨rfl,rfl⟩:=Prod.mk.inj (ď ec);rw[Ĺ]at h;obtain ⟨z2,ez,exz,eS,kz,hz⟩:=adopt nL nD ew kw eD aw h;rw[<-ez];exact ⟨by rw[ez];exact (it _ w hL2 ew kw).1,q _ z2 (ex.trans exz) eS kz hz⟩
 ·rintro n H' hn ⟨w,vs,ds1,ds2,rfl,ew,kw,eD,aw,ec,rfl⟩;rw[List.drop_eq_getElem_cons hn]at ec;obtain ⟨ρ2,e3,ec⟩:=bnd ec;obtain ⟨⟨b,S3⟩,e4,ec⟩:=bnd ec;obtain ⟨hgo,hy⟩:=(it _ w hL2 ew kw).2 n es[n] (Í hn);refine ⟨hgo,λv H2 yl=>?_⟩;obtain ⟨w2,rfl,ew2,eS2,kw2,hv2⟩:=hy v H2 yl;rw[<-eS2]at e3 e4;have r2:Rl X.kc (λb=>L b\/b=D) w2 (Λ ix σ) (b4 ix ρ):=Rl.cap ⟨rl.1,λi d h=>let ⟨v,h1,h2⟩:=rl.2 i d h;⟨v,h1,by
   have h2:=h2.ex ex;cases d with
   |d u=>exact Dt.same ((ew.trans ew2).sameL hL2) h2
   |r j=>obtain ⟨a,g1,g2⟩:=h2;exact ⟨a,(ew.trans ew2).pre j a g1,g2⟩⟩⟩
  have keepD:∀{w3:Wd},Ex w2 w3->w3.H D=some (.lst vs):=λ{w3} e3=>(e3.kp D _ (λ⟨i,o,g1,_⟩=>kw2.dis D (ć g1) (.inr rfl)) ((ew2.kp D _ (λ⟨i,o,g1,_⟩=>kw.dis D (ć g1) (.inr rfl)) eD).1)).1;refine d2 _ (b4 ix ρ) _ w2 v es[n] ρ2 _ e3 kw2 r2 hv2 λσ2 kp r3=>⟨⟨kp.1,λi u hi=>?_⟩,?_⟩
  ·rw[kp.2 i λzz=>?_]
   ·exact hi
   ·have:=hix i zz;unfold Λ at hi;rw[Ĉ,this]at hi;cases hi
  refine d3 _ ρ2 σ2 w2 b S3 _ e4 kw2 r3 λw3 ew3 eS3 kw3=>?_;subst eS3;cases b with
  |false=>exact fC ⟨w3,vs,ds1,ds2,rfl,(ew.trans ew2).trans ew3,kw3,keepD ew3,aw.ex (ew2.trans ew3),ec,rfl⟩
  |true=>
   obtain ⟨⟨r1,S4⟩,e5,ec⟩:=bnd ec;obtain ⟨⟨ds3,S6⟩,e7,ec⟩:=bnd ec;obtain ⟨rfl,rfl⟩:=Prod.mk.inj (ď ec);refine fB (d4 _ ρ2 σ2 w3 r1 S4 _ e5 kw3 (r3.ex ew3) λv4 w4 ew4 eS4 kw4 hv4=>?_);subst eS4;have e45:=ew3.trans ew4;rw[Ó]at z;refine ⟨vs,keepD e45,qei (by rw[aw.length];omega),Wd.up w4 D (.lst (vs++[v4])),vs++[v4],ds1++[r1],ds3,rfl,?_,kw4.poke (.inr rfl),bB,((aw.ex (ew2.trans e45)).append (.cons hv4 .nil)).poke (.inr rfl),e7,by rw[ō];rfl⟩;have e5:=(ew.trans ew2).trans e45;refine ⟨e5.pre,λb u nb eb=>?_,λb h=>?_,e5.fr⟩
   rotate_left
   ·show upd w4.H D _ b≠none;by_cases z:b=D
    ·rw[z,bB];simp
    ·rw[Δ z];exact e5.al b h
   obtain ⟨h1,h2⟩:=e5.kp b u nb eb;refine ⟨?_,h2⟩;show upd w4.H D _ b=some u;rw[Δ (λzz=>by rw[zz,nD]at eb;cases eb)];exact h1
end
end Dp
namespace Dp
open PySem L2 PyProof.Rows Mx
section
variable (K:Kc)
noncomputable def tE(f:FE):TE:=λσ H Q=>∃L ρ x r S',x.H=H/\f ρ x.S=some (r,S')/\Ok K L x/\Rl K L x σ ρ/\∀v y,Ex x y->y.S=S'->Ok K L y->Hv K L y v r->Q v y.H
noncomputable def tT(f:FT):TT:=λσ H Q=>∃L ρ x r S',x.H=H/\f ρ x.S=some (r,S')/\Ok K L x/\Rl K L x σ ρ/\∀y,Ex x y->y.S=S'->Ok K L y->Q r y.H
noncomputable def tG(is:List Nat)(f:FG):TG:=λv σ H Q=>∃L ρ x d ρ',x.H=H/\f d ρ x.S=some ρ'/\Ok K L x/\Rl K L x σ ρ/\Hv K L x v d/\∀σ',KpO is σ σ'->Rl K L x σ' ρ'->Q σ' x.H
end
section
variable {X:Cx}{e elt tg iter:Expr}{es ifs:List Expr}{scope:Scope}{pos p:Pos}{f:FE}{fa:FA}{ft:FT}{fi:FA}{fg:FG}{is:List Nat}{M:List Str}{ix:List (Option Nat)}
theorem DE.pe(h:DE X e f):PE X e (tE X.kc f):=by
 obtain ⟨t,p1,d1⟩:=h;rintro pins s σ H Q I ⟨L,ρ,x,r,S',rfl,h,k,rl,q⟩;exact p1 pins s σ x.H Q I (d1 L ρ σ x r S' Q h k rl q)
theorem dn_tE{K:Kc}:Dn K (tE K f) f:=λL ρ σ x r S' Q h k rl q=>⟨L,ρ,x,r,S',rfl,h,k,rl,q⟩
theorem DG.pg(h:DG X e is fg):PG X e (tG X.kc is fg):=by
 obtain ⟨t,p1,d1⟩:=h;rintro pins s σ H v u Q I r ⟨L,ρ,x,d,ρ',rfl,h,k,rl,hv,q⟩;exact p1 pins s σ x.H v u Q I r (d1 L ρ σ x v d ρ' Q h k rl hv q)
theorem dn_tG{K:Kc}:DnG K (tG K is fg) is fg:=λL ρ σ x v d ρ' Q h k rl hv q=>⟨L,ρ,x,d,ρ',rfl,h,k,rl,hv,q⟩
noncomputable def DTs(X:Cx)(ifs:List Expr)(f:FT):Prop:=∃t,PTs X ifs t/\DnT X.kc t f
noncomputable def υ:FT:=λ_ S=>some (true,S)
theorem dts_nil:DTs X [] υ:=⟨_,pts_nil,λL ρ σ x r S' Q h k rl q=>by cases h;exact q x Ex.refl rfl k⟩
theorem dts_one(h:DT X c ft):DTs X [c] ft:=let ⟨t,p1,d1⟩:=h;⟨t,pts_one p1,d1⟩
theorem DTs.pt(h:DTs X ifs ft):PTs X ifs (tT X.kc ft):=by
 obtain ⟨t,p1,d1⟩:=h;rintro pins s σ H Q I ⟨L,ρ,x,r,S',rfl,h,k,rl,q⟩;exact p1 pins s σ x.H Q I (d1 L ρ σ x r S' Q h k rl q)
theorem dn_tT{K:Kc}:DnT K (tT K ft) ft:=λL ρ σ x r S' Q h k rl q=>⟨L,ρ,x,r,S',rfl,h,k,rl,q⟩
theorem ygh(hc:X.calm=true)(ck:CompOk X.N M ix scope X.env.scope)(hix:∀i∈is,ix[i]?=some none)(h1:DI X tg iter fi)(h2:∀C fp s2 H2,DG (bn X M scope C fp s2 H2) tg is fg)(h3:∀C fp s2 H2,DTs (bn X M scope C fp s2 H2) ifs ft)(h4:∀C fp s2 H2,DE (bn X M scope C fp s2 H2) elt f)(hs:yek iter=true) :
  DE X (.ListComp elt [⟨tg,iter,ifs,0⟩] scope pos) (Į own ix fi fg ft f):=by
 obtain ⟨wi,p1,d1⟩:=h1;exact ⟨_,pe_comp hc ck p1 (g:=tG X.kc is fg) (tt:=tT X.kc ft) (te:=tE X.kc f) (λC fp s2 H2=>(h2 C fp s2 H2).pg) (λC fp s2 H2=>(h3 C fp s2 H2).pt) (λC fp s2 H2=>(h4 C fp s2 H2).pe) (qf2 hs),yi3 hix d1 dn_tG dn_tT dn_tE⟩
theorem ds_setC(hw:Wr X i x)(hc:X.calm=true)(ck:CompOk X.N M ix scope X.env.scope)(hix:∀i∈is,ix[i]?=some none)(h1:DI X tg iter fi)(h2:∀C fp s2 H2,DG (bn X M scope C fp s2 H2) tg is fg)(h3:∀C fp s2 H2,DTs (bn X M scope C fp s2 H2) ifs ft)(h4:∀C fp s2 H2,DE (bn X M scope C fp s2 H2) elt f)(hs:yek iter=true) :
  DS X (.Assign [.Name x pos'] (.ListComp elt [⟨tg,iter,ifs,0⟩] scope pos) spos) (Č (Į own ix fi fg ft f) (Đ i)):=by
 cases hb:(X.env.blockKind == .function&&X.env.kindOf x == some .local&&pos'.line == pos.line && !(scope.names.any λ(n,k)=>n == x&&(k == .local||k == .cell))) with
 |false=>
  obtain ⟨t,p1,d1⟩:=ygh (pos:=pos) hc ck hix h1 h2 h3 h4 hs;refine ⟨_,ps_set hw.nd hw.at_ hw.loc p1 ?_ hw.fn,qgx d1 dn_nm⟩;rw[<-hb];rfl
 |true=>
  obtain ⟨wi,p1,d1⟩:=h1;refine ⟨_,ps_setC ?_ hw.nd hw.at_ hw.loc hc ck p1 (g:=tG X.kc is fg) (tt:=tT X.kc ft) (te:=tE X.kc f) (λC fp s2 H2=>(h2 C fp s2 H2).pg) (λC fp s2 H2=>(h3 C fp s2 H2).pt) (λC fp s2 H2=>(h4 C fp s2 H2).pe) (qf2 hs) hw.fn,?_⟩
  ·rw[<-hb];rfl
  ·exact qgx (tg:=gName i) (yi3 hix d1 dn_tG dn_tT dn_tE) dn_nm
noncomputable abbrev FF:=List DV->OS->Option (DV×OS)
noncomputable def bj(K:Kc)(F:FF):Sp:=λvs H Q _=>∃L x ds r S',x.H=H/\Ok K L x/\HvA K L x vs ds/\F ds x.S=some (r,S')/\∀v y,Ex x y->y.S=S'->Ok K L y->Hv K L y v r->Q v y.H
noncomputable def č(F:FF)(fa:FA):FE:=λρ S=>(fa ρ S).bind λp=>F p.1 p.2
theorem dF:∀{es:List Expr},es.all bA=true->(ľ pos (â es env)).any (·.1)=false
 |[],_=>rfl
 |e::es,h=>by
  rw[Ĩ,Å]at h;have ih:=dF (env:=env) h.2;have:â (e::es) env=(false,eval e env)::â es env:=by cases e<;>first|rfl|cases h.1
  rw[this];show (false||_)=false;rw[Bool.false_or];exact ih
theorem de_call(h:Has X.prog X.w X.K X.mg X.base k x ps (bj X.kc F))(hr:Room m X.A)(hk:k<=m)(ha:DA X (e::es) fa)(hg:Gl X x)(hdb:(x == ("__debug__" : Str))=false)(hs:(e::es).all bA=true):DE X (.Call (.Name x p) (e::es) [] pos) (č F fa):=by
 obtain ⟨t,p1,d1⟩:=ha;have hs':=hs;rw[Ĩ,Å]at hs';refine ⟨_,pe_callH h hr p1 hk hg hdb (bM hs'.1) (dF hs'.2),λL ρ σ x r S' Q h k rl q=>?_⟩;obtain ⟨⟨ds,S1⟩,e1,h⟩:=bnd h;refine d1 L ρ σ x ds S1 _ e1 k rl λvs y ex ey ky hv=>?_;subst ey;rw[Ĺ];exact ⟨L,y,ds,r,S',rfl,ky,hv,h,λv z ez=>q v z (ex.trans ez)⟩
noncomputable def eQ(F:FF):FF:=λds S=>(datas ds).bind λ_=>(F ds []).bind λp=>(fz p.1 p.2).map λq=>(.d q.1,S)
noncomputable def dW(F:FF):FF:=λds S=>(eQ F ds S).or (F ds S)
theorem yex:∀{ds:List DV}{dd:List Â},datas ds=some dd->dd.map DV.d=ds
 |[],dd,h=>by cases h;rfl
 |.d c::cs,dd,h=>by
  obtain ⟨dd',e5,rfl⟩:=Á.mp h;rw[þ,yex e5]
 |.r _::_,dd,h=>by cases h
theorem ycl{K:Kc}{F:FF}{vs:List V}{H:Hp}{Q:VK}{E:XK}(h:bj K (dW F) vs H Q E):bj K F vs H Q E:=by
 obtain ⟨L,x,ds,r,S',rfl,k,hv,h,q⟩:=h;unfold dW at h;cases e0:eQ F ds x.S with
 |none=>
  rw[e0,æ]at h;exact ⟨L,x,ds,r,S',rfl,k,hv,h,q⟩
 |some o=>
  rw[e0]at h;cases h;obtain ⟨dd,e1,h⟩:=bnd e0;obtain ⟨⟨r1,S1⟩,e2,h⟩:=bnd h;obtain ⟨⟨d,S2⟩,e3,h⟩:=Á.mp h;cases h;have noLv:∀b,¬ Wd.Lv ⟨[],[],x.H⟩ b:=λb ⟨i,o,g1,_⟩=>by simp at g1
  refine ⟨λb=>L b\/x.Lv b,⟨[],[],x.H⟩,ds,r1,S1,rfl,⟨rfl,nodup_nil,(λa h=>nomatch h),(λa h=>h.elim (λh=>h.elim (λz=>k.liv a (.inl z)) λ⟨i,o,g1,_⟩=>k.liv a (.inr (ć g1))) λh=>nomatch h),λi o a h=>by simp at h⟩,?_,e2,λv y ex ey ky hy=>?_⟩
  ·have a:=hv.datas e1;have a2:DtA K (Wd.hp (λb=>L b\/x.Lv b) ⟨[],[],x.H⟩) vs dd:=a.same (yas λb u nb eb=>⟨eb,λz=>z.elim nb (noLv b)⟩);have:=qgh a2;have e4:=yex e1;rw[e4]at this;exact this
  ·subst ey;obtain ⟨x2,k2,a2⟩:=yin ky hy e3;have ex2:=ex.trans x2;have keep:∀b u,x.H b=some u->y.H b=some u:=λb u e=>(ex2.kp b u (noLv b) e).1;have exy:Ex x ⟨x.φ,x.S,y.H⟩:=⟨λ_ _ h=>h,λb u nb e=>⟨keep b u e,nb⟩,λb h=>(by
    cases e:x.H b with
    |none=>exact absurd e h
    |some u=>show y.H b≠none;rw[keep b u e];simp),λ_ _ h g=>qhz h g⟩
   refine q v ⟨x.φ,x.S,y.H⟩ exy rfl ⟨k.len,k.nd,k.dis,λa h=>?_,λi o a h1 h2=>(k.obj i o a h1 h2).keep exy λu e=>keep a u e⟩ (Dt.same (yas λb u nb e=>⟨e,λz=>nb (.inl z)⟩) a2);show y.H a≠none;cases e:x.H a with
   |none=>exact absurd e (k.liv a h)
   |some u=>rw[keep a u e];simp
noncomputable def Ŧ(n m:Nat)(fs:FS):FF:=λds S=>if ds.length=m then (fs (ds.map some++Ă (n-ds.length) none) S).map λq=>(match q.1 with|.rt d=>d|.nx _=>.d .none,q.2) else none
theorem rl_start{K:Kc}{L:Addr->Prop}{x:Wd}{N:List Str}{vs:List V}{ds:List DV}(a:HvA K L x vs ds):Rl K L x (L2.eC N vs) (ds.map some++Ă (N.length-ds.length) none):=by
 have hl:=a.length;refine ⟨by simp[L2.eC,hl],λi d h=>?_⟩;by_cases hi:i<ds.length
 ·rw[ë (by rw[Ð];exact hi),Ĉ]at h;cases e:ds[i]? with
  |none=>rw[e]at h;cases h
  |some d'=>
   rw[e]at h;cases h;obtain ⟨v,hv,ha⟩:=a.get e;refine ⟨v,?_,ha⟩;unfold L2.eC;rw[ë (by rw[Ð,hl];exact hi),Ĉ,hv];rfl
 ·rw[ö (by rw[Ð];omega),List.getElem?_replicate]at h;split at h<;>cases h
end
section
variable {K:Kc}{base:Heap}
theorem yb0{N ps:List Str}{fs:FS}{t:TS}{vs:List V}{H:Hp}{Q:VK}{E:XK}(d1:DnS K t fs)(h:bj K (Ŧ N.length ps.length fs) vs H Q E):vs.length=ps.length/\t { nx:=λ_ H'=>Q .non H',rt:=Q } (L2.eC N vs) H:=by
 obtain ⟨L,x,ds,r,S',rfl,k,hv,h,q⟩:=h;unfold Ŧ at h;split at h
 ·rename_i l
  obtain ⟨⟨o,S1⟩,e1,h⟩:=Á.mp h;cases h;refine ⟨by rw[hv.length];exact l,d1 L _ _ x o S1 _ e1 k (rl_start hv) ?_⟩;cases o with
  |nx ρ=>exact λσ y ex ey ky _=>q .non y ex ey ky .non
  |rt d=>exact λv y ex ey ky hy=>q v y ex ey ky hy
 ·cases h
theorem Has.ofF{x:Str}{st:Stmt}{ps N:List Str}{k:Nat}{fs:FS}(F:FnAt K.K K.mg x st ps)(S:FnScope N ps (bw st))
  (hb:∀(f:Addr) (cdv:Æ) (A:Ā) (outer:List Env) (s:Ç) (H:Hp) (E:XK),Room k (A.deeper (envOfC x (bw st) s.heap.objs.size f cdv))->DB (cxOf CX0 K.P K.w K.K K.mg base N x (bw st) f cdv A outer s H E).nox (cR st) fs):Has K.P K.w K.K K.mg base (k+1) x ps (bj K (dW (Ŧ N.length ps.length fs))):=by
 refine Has.imp (sp:=bj K (Ŧ N.length ps.length fs)) ?_ λvs H Q E h=>ycl h;refine Has.of F S ?_ ?_
 ·intro vs H Q E h;exact (yb0 (N:=N) (t:=λD σ H=>∃L ρ x r S',x.H=H/\fs ρ x.S=some (r,S')/\Ok K L x/\Rl K L x σ ρ/\OutK K L x S' D r) (λL ρ σ x r S' D h k rl q=>⟨L,ρ,x,r,S',rfl,h,k,rl,q⟩) h).1
 intro f cdv A outer s H vs Q E hr h;obtain ⟨t,h1,h2⟩:=hb f cdv A outer s H E hr;exact ⟨t,h1,(yb0 h2 h).2⟩
end
end Dp
namespace Dp
open PySem L2 PyProof.Rows Mx
section
variable {X:Cx}{e a b o i:Expr}{es:List Expr}{f g:FE}{fa:FA}{ft:FT}{pos p q:Pos}
noncomputable def negF(f:FE):FE:=λρ S=>(f ρ S).bind λp=>match p.1 with
 |.d (.int i)=>some (.d (.int (-i)),p.2)
 |_=>none
theorem de_neg(h:DE X a f):DE X (.UnaryOp .USub a pos) (negF f):=by
 obtain ⟨t,p1,d1⟩:=h;refine ⟨_,pe_un un_neg p1,λL ρ σ x r S' Q h k rl q=>?_⟩;obtain ⟨⟨r1,S1⟩,e1,h⟩:=bnd h;dsimp only at h;split at h
 ·cases h;refine d1 L ρ σ x _ _ _ e1 k rl λv y ex ey ky hv=>?_;cases hv;exact ⟨_,rfl,q _ y ex ey ky (.int _)⟩
 ·cases h
noncomputable def bvF(f:FT):FE:=λρ S=>(f ρ S).map λp=>(.d (.bool p.1),p.2)
theorem de_not(h:DE X a f):DE X (.UnaryOp .Not a pos) (bvF (χ (ò f))):=by
 obtain ⟨t,p1,d1⟩:=h;refine ⟨_,pe_not p1,λL ρ σ x r S' Q h k rl q=>?_⟩;obtain ⟨⟨b,S1⟩,e1,h⟩:=Á.mp h;cases h;exact dn_not (X:=X) (qdy d1) L ρ σ x b _ (λb H=>Q (.bl b) H) e1 k rl λy ex ey ky=>q _ y ex ey ky (.bl _)
noncomputable def bu(f g:FE):FE:=λρ S=>(f ρ S).bind λp=>match p.1 with
 |.d (.bool true)=>g ρ p.2
 |.d (.bool false)=>some (.d (.bool false),p.2)
 |_=>none
noncomputable def orV(f g:FE):FE:=λρ S=>(f ρ S).bind λp=>match p.1 with
 |.d (.bool false)=>g ρ p.2
 |.d (.bool true)=>some (.d (.bool true),p.2)
 |_=>none
theorem de_one{op}(h:DE X a f):DE X (.BoolOp op [a] pos) f:=let ⟨t,p1,d1⟩:=h;⟨t,pe_one p1,d1⟩
theorem de_and{rest:List Expr}(h1:DE X a f)(h2:DE X (.BoolOp .And (b::rest) pos) g):DE X (.BoolOp .And (a::b::rest) pos) (bu f g):=by
 obtain ⟨t,p1,d1⟩:=h1;obtain ⟨u,p2,d2⟩:=h2;refine ⟨_,pe_and p1 p2,λL ρ σ x r S' Q h k rl q=>?_⟩;obtain ⟨⟨r1,S1⟩,e1,h⟩:=bnd h;dsimp only at h;split at h
 ·refine d1 L ρ σ x _ _ _ e1 k rl λv y ex ey ky hv=>?_;subst ey;cases hv;exact ⟨true,rfl,fB (d2 L ρ σ y r S' Q h ky (rl.ex ex) λv z ez=>q v z (ex.trans ez))⟩
 ·cases h;refine d1 L ρ σ x _ _ _ e1 k rl λv y ex ey ky hv=>?_;cases hv;exact ⟨false,rfl,fC (q _ y ex ey ky (.bl _))⟩
 ·cases h
theorem de_or{rest:List Expr}(h1:DE X a f)(h2:DE X (.BoolOp .Or (b::rest) pos) g):DE X (.BoolOp .Or (a::b::rest) pos) (orV f g):=by
 obtain ⟨t,p1,d1⟩:=h1;obtain ⟨u,p2,d2⟩:=h2;refine ⟨_,pe_or p1 p2,λL ρ σ x r S' Q h k rl q=>?_⟩;obtain ⟨⟨r1,S1⟩,e1,h⟩:=bnd h;dsimp only at h;split at h
 ·refine d1 L ρ σ x _ _ _ e1 k rl λv y ex ey ky hv=>?_;subst ey;cases hv;exact ⟨false,rfl,fC (d2 L ρ σ y r S' Q h ky (rl.ex ex) λv z ez=>q v z (ex.trans ez))⟩
 ·cases h;refine d1 L ρ σ x _ _ _ e1 k rl λv y ex ey ky hv=>?_;cases hv;exact ⟨true,rfl,fB (q _ y ex ey ky (.bl _))⟩
 ·cases h
noncomputable abbrev FO:=DEnv->OS->Option (Option Int×OS)
noncomputable def DnO(K:Kc)(to:TO)(f:FO):Prop:=∀L ρ σ x r S' (Q:Option Int->Hp->Prop),f ρ x.S=some (r,S')->Ok K L x->Rl K L x σ ρ->(∀y,Ex x y->y.S=S'->Ok K L y->Q r y.H)->to σ x.H Q
noncomputable def DO(X:Cx)(e:Option Expr)(f:FO):Prop:=∃t,PO X e t/\DnO X.kc t f
noncomputable def cX:FO:=λ_ S=>some (none,S)
theorem do_no:DO X none cX:=⟨_,po_none,λL ρ σ x r S' Q h k rl q=>by cases h;exact q x Ex.refl rfl k⟩
noncomputable def η(f:FE):FO:=λρ S=>(f ρ S).bind λp=>match p.1 with
 |.d (.int i)=>some (some i,p.2)
 |_=>none
theorem do_part(h:DE X e f):DO X (some e) (η f):=by
 obtain ⟨t,p1,d1⟩:=h;refine ⟨_,po_some p1,λL ρ σ x r S' Q h k rl q=>?_⟩;obtain ⟨⟨r1,S1⟩,e1,h⟩:=bnd h;dsimp only at h;split at h
 ·cases h;refine d1 L ρ σ x _ _ _ e1 k rl λv y ex ey ky hv=>?_;cases hv;exact ⟨_,rfl,q y ex ey ky⟩
 ·cases h
noncomputable def dh(ds:List Â)(lo hi:Option Int):List Â:=(ds.drop (HT.sIx ds.length 0 lo)).take (HT.sIx ds.length ds.length hi-HT.sIx ds.length 0 lo)
theorem cut_at{K:Kc}{H:Hp}{vs:List V}{ds:List Â}(a:DtA K H vs ds)(lo hi:Option Int):DtA K H (dg vs lo hi) (dh ds lo hi):=by
 unfold dg dh;rw[a.length];exact (a.drop _).take _
noncomputable def b5(f:FE)(fl fh:FO):FE:=λρ S=>(f ρ S).bind λp=>(fl ρ p.2).bind λl=>(fh ρ l.2).bind λh=>(cA p.1 h.2).bind λs=>
 if s.1=true then if HT.sIx s.2.length 0 l.1=0/\HT.sIx s.2.length s.2.length h.1=s.2.length then none else some (.d (.tuple (dh s.2 l.1 h.1)),h.2)
 else some (.d (.list (dh s.2 l.1 h.1)),h.2)
theorem de_sl{lo hi:Option Expr}{fl fh:FO}{p2:Pos}(h1:DE X e f)(h2:DO X lo fl)(h3:DO X hi fh):DE X (.Subscript e (.Slice lo hi none p2) pos) (b5 f fl fh):=by
 obtain ⟨t,p1,d1⟩:=h1;obtain ⟨u,p2,d2⟩:=h2;obtain ⟨w,p3,d3⟩:=h3;refine ⟨_,pe_slice (sl_list.or sl_tup) p1 p2 p3,λL ρ σ x r S' Q h k rl q=>?_⟩;obtain ⟨⟨r1,S1⟩,e1,h⟩:=bnd h;obtain ⟨⟨l,S2⟩,e2,h⟩:=bnd h;obtain ⟨⟨u,S3⟩,e3,h⟩:=bnd h;obtain ⟨⟨tb,ds⟩,e4,h⟩:=bnd h;refine d1 L ρ σ x r1 S1 _ e1 k rl λv y ex ey ky hv=>?_;subst ey;refine d2 L ρ σ y l S2 _ e2 ky (rl.ex ex) λy2 ex2 ey2 ky2=>?_;subst ey2;refine d3 L ρ σ y2 u S3 _ e3 ky2 (rl.ex (ex.trans ex2)) λy3 ex3 ey3 ky3=>?_;subst ey3;have e13:=(ex.trans ex2).trans ex3;obtain ⟨p,vs,rfl,g1,a1⟩:=qb1 ky3 (hv.ex (ex2.trans ex3)) e4;dsimp only at h;cases tb with
 |true=>
  rw[if_pos rfl]at h;split at h
  ·cases h
  ·rename_i z
   cases h;exact .inr ⟨p,vs,rfl,g1,by rw[a1.length];exact z,λl n=>q _ (y3.up l _) (e13.trans (Ex.up n)) rfl (ky3.up n) (cT ky3 n (cut_at a1 _ _)).1⟩
 |false=>
  rw[if_neg (by simp)]at h;cases h;exact .inl ⟨p,vs,rfl,g1,λl n=>q _ (y3.up l _) (e13.trans (Ex.up n)) rfl (ky3.up n) (cT ky3 n (cut_at a1 _ _)).2⟩
noncomputable def qek:DV->Option Int
 |.d (.int i)=>some i
 |_=>none
theorem qb9{K:Kc}{L:Addr->Prop}{x:Wd}{v:V}{d:DV}{i:Int}(h:Hv K L x v d)(e:qek d=some i):v=.int i:=by
 unfold qek at e;split at e
 ·cases e;cases h;rfl
 ·cases e
noncomputable def sl3F(f g:FE):FE:=λρ S=>(f ρ S).bind λp=>(g ρ p.2).bind λq=>(cA p.1 q.2).bind λs=>(qek q.1).bind λi=>
 if s.1=true then none else if i=-1 then some (.d (.list s.2.reverse),q.2) else if i=1 then some (.d (.list s.2),q.2) else none
theorem de_sl3{st:Expr}{p2:Pos}(h1:DE X e f)(h2:DE X st g):DE X (.Subscript e (.Slice none none (some st) p2) pos) (sl3F f g):=by
 obtain ⟨t,p1,d1⟩:=h1;obtain ⟨u,p2,d2⟩:=h2;refine ⟨_,qir p1 p2,λL ρ σ x r S' Q h k rl q=>?_⟩;obtain ⟨⟨r1,S1⟩,e1,h⟩:=bnd h;obtain ⟨⟨r2,S2⟩,e2,h⟩:=bnd h;obtain ⟨⟨tb,ds⟩,e4,h⟩:=bnd h;obtain ⟨i,e5,h⟩:=bnd h;refine d1 L ρ σ x r1 S1 _ e1 k rl λv y ex ey ky hv=>?_;subst ey;refine d2 L ρ σ y r2 S2 _ e2 ky (rl.ex ex) λv2 y2 ex2 ey2 ky2 hv2=>?_;subst ey2;obtain ⟨p,vs,rfl,g1,a1⟩:=qb1 ky2 (hv.ex ex2) e4;cases qb9 hv2 e5;have e12:=ex.trans ex2;dsimp only at h;cases tb with
 |true=>cases h
 |false=>
  rw[if_neg (by simp)]at h;split at h
  ·rename_i z
   cases h;exact ⟨p,vs,false,rfl,g1,by rw[z];rfl,λl n=>q _ (y2.up l _) (e12.trans (Ex.up n)) rfl (ky2.up n) (cT ky2 n a1.rev).2⟩
  ·split at h
   ·rename_i z
    cases h;exact ⟨p,vs,true,rfl,g1,by rw[z];rfl,λl n=>q _ (y2.up l _) (e12.trans (Ex.up n)) rfl (ky2.up n) (cT ky2 n a1).2⟩
   ·cases h
noncomputable def a7(fa:FA):FE:=λρ S=>(fa ρ S).bind λp=>if p.1.length<=most then some (.r p.2.length,p.2++[.lst p.1]) else none
theorem qj2{K:Kc}{L:Addr->Prop}{y:Wd}{l:Addr}{vs:List V}{es:List DV}(k:Ok K L y)(n:y.H l=none)(a:HvA K L y vs es):Ok K L (y.new l (.lst es) (.lst vs)):=k.new n ⟨vs,bB,a.ex (Ex.new k n)⟩
theorem de_lstO(h:DA X es fa):DE X (.List es pos) (a7 fa):=by
 obtain ⟨t,p1,d1⟩:=h;refine ⟨_,pe_lst p1,λL ρ σ x r S' Q h k rl q=>?_⟩;obtain ⟨⟨es,S1⟩,e1,h⟩:=bnd h;dsimp only at h;split at h
 ·cases h;refine d1 L ρ σ x es S1 _ e1 k rl λvs y ex ey ky hv=>?_;subst ey;exact ⟨eY (by rw[hv.length];assumption),λl n=>q _ (y.new l (.lst es) (.lst vs)) (ex.trans (Ex.new ky n)) rfl (qj2 ky n hv) (yb8 (e:=.d .none) ky)⟩
 ·cases h
noncomputable def dq(d:DV)(S:OS):Option (Nat×List DV):=match d with
 |.r i=>match S[i]? with
  |some (.lst es)=>some (i,es)
  |_=>none
 |_=>none
theorem ye7{K:Kc}{L:Addr->Prop}{x:Wd}{v:V}{d:DV}{j:Nat}{es:List DV}(k:Ok K L x)(h:Hv K L x v d)(e:dq d x.S=some (j,es)):∃p vs,v=.ref p/\x.φ[j]?=some p/\x.S[j]?=some (.lst es)/\x.H p=some (.lst vs)/\HvA K L x vs es:=by
 unfold dq at e;split at e
 ·rename_i i
  split at e
  ·rename_i es' hs
   cases e;obtain ⟨p,h1,rfl⟩:=h;obtain ⟨vs,h2,h3⟩:=k.obj _ _ p hs h1;exact ⟨p,vs,rfl,h1,hs,h2,h3⟩
  ·cases e
 ·cases e
noncomputable def cq:List DV->Option DV
 |[d]=>some d
 |_=>none
theorem cH{K:Kc}{L:Addr->Prop}{x:Wd}{vs:List V}{ds:List DV}{d:DV}(h:HvA K L x vs ds)(e:cq ds=some d):∃v,vs=[v]/\Hv K L x v d:=by
 unfold cq at e;split at e
 ·cases e;cases h with
  |cons a t=>cases t;exact ⟨_,rfl,a⟩
 ·cases e
noncomputable def aA(f:FE)(fa:FA):FE:=λρ S=>(f ρ S).bind λp=>(dq p.1 p.2).bind λ_=>(fa ρ p.2).bind λq=>(dq p.1 q.2).bind λo=>(cq q.1).bind λd=>if o.2.length<most then some (.d .none,q.2.set o.1 (.lst (o.2++[d]))) else none
noncomputable def cx(f:FE)(fa:FA):FE:=λρ S=>(f ρ S).bind λp=>(dq p.1 p.2).bind λ_=>(fa ρ p.2).bind λq=>(dq p.1 q.2).bind λo=>(cq q.1).bind λd=>(lsO d q.2).bind λds=>if o.2.length+ds.length<=most then some (.d .none,q.2.set o.1 (.lst (o.2++ds))) else none
theorem yd8{K:Kc}{L:Addr->Prop}{x:Wd}{j:Nat}{p:Addr}{es fs:List DV}{us:List V}(k:Ok K L x)(h1:x.φ[j]?=some p)(h2:x.S[j]?=some (.lst es))(a:HvA K L x us fs):Ex x (x.put j p (.lst fs) (.lst us))/\Ok K L (x.put j p (.lst fs) (.lst us)):=
 ⟨Ex.put k h1 h2 rfl,k.put h1 h2 rfl ⟨us,bB,a.ex (Ex.put k h1 h2 rfl)⟩⟩
structure BmOk(X:Cx)(o:Expr)(name:Str)(es:List Expr)(apos cpos:Pos):Prop where
 base:Ű o name X.env (eval o X.env)=eval o X.env
 few:((ľ cpos (â es X.env)).all (λx=>!x.1)&&(backToKw cpos (ť [] X.env)).all (λx=>x.1.isSome)&&decide (es.length+([]:List Keyword).length+(if ([]:List Keyword).isEmpty then 0 else 1)<30))=true
 line:(apos.endLine == cpos.line)=true
theorem qjx{K:Kc}{L:Addr->Prop}{x:Wd}{v:V}{d:DV}{o:Nat×List DV}(k:Ok K L x)(h:Hv K L x v d)(e:dq d x.S=some o):tyV K.K "list" v x.H:=by
 obtain ⟨j,es⟩:=o;obtain ⟨p,vs,rfl,_,_,h3,_⟩:=ye7 k h e;exact .inl ⟨rfl,vs,cp h3⟩
theorem de_app{apos cpos:Pos}(hb:BmOk X o "append" (e::es) apos cpos)(h1:DE X o f)(h2:DA X (e::es) fa)(hs:(e::es).all bA=true):DE X (.Call (.Attribute o "append" apos) (e::es) [] cpos) (aA f fa):=by
 obtain ⟨t,p1,d1⟩:=h1;obtain ⟨u,p2,d2⟩:=h2;have hs':=hs;rw[Ĩ,Å]at hs';refine ⟨_,qki a8 PySem.F.slot_list_append PySem.F.type_list_append qfe p1 p2 hb.base hb.few hb.line (bM hs'.1) (dF hs'.2),λL ρ σ x r S' Q h k rl q=>?_⟩;obtain ⟨⟨r1,S1⟩,e1,h⟩:=bnd h;obtain ⟨o0,e0,h⟩:=bnd h;obtain ⟨⟨r2,S2⟩,e2,h⟩:=bnd h;obtain ⟨⟨j,es⟩,e3,h⟩:=bnd h;obtain ⟨d,e4,h⟩:=bnd h;split at h
 ·rename_i z
  cases h;refine d1 L ρ σ x r1 S1 _ e1 k rl λv y ex ey ky hv=>?_;subst ey;refine ⟨qjx ky hv e0,d2 L ρ σ y _ S2 _ e2 ky (rl.ex ex) λvs y2 ex2 ey2 ky2 hv2=>?_⟩;subst ey2;obtain ⟨p,us,rfl,g1,g2,g3,g4⟩:=ye7 ky2 (hv.ex ex2) e3;obtain ⟨w,rfl,hw⟩:=cH hv2 e4;obtain ⟨h1,h2⟩:=yd8 ky2 g1 g2 (g4.append (.cons hw .nil));exact ⟨p,us,w,rfl,rfl,g3,qei (by rw[g4.length];exact γ z),q _ (y2.put j p _ _) ((ex.trans ex2).trans h1) rfl h2 .non⟩
 ·cases h
theorem de_ext{apos cpos:Pos}(hb:BmOk X o "extend" (e::es) apos cpos)(h1:DE X o f)(h2:DA X (e::es) fa)(hs:(e::es).all bA=true):DE X (.Call (.Attribute o "extend" apos) (e::es) [] cpos) (cx f fa):=by
 obtain ⟨t,p1,d1⟩:=h1;obtain ⟨u,p2,d2⟩:=h2;have hs':=hs;rw[Ĩ,Å]at hs';refine ⟨_,qki a8 PySem.F.slot_list_extend PySem.F.type_list_extend qi3 p1 p2 hb.base hb.few hb.line (bM hs'.1) (dF hs'.2),λL ρ σ x r S' Q h k rl q=>?_⟩;obtain ⟨⟨r1,S1⟩,e1,h⟩:=bnd h;obtain ⟨o0,e0,h⟩:=bnd h;obtain ⟨⟨r2,S2⟩,e2,h⟩:=bnd h;obtain ⟨⟨j,es⟩,e3,h⟩:=bnd h;obtain ⟨d,e4,h⟩:=bnd h;obtain ⟨ds,e5,h⟩:=bnd h;split at h
 ·rename_i z
  cases h;refine d1 L ρ σ x r1 S1 _ e1 k rl λv y ex ey ky hv=>?_;subst ey;refine ⟨qjx ky hv e0,d2 L ρ σ y _ S2 _ e2 ky (rl.ex ex) λvs y2 ex2 ey2 ky2 hv2=>?_⟩;subst ey2;obtain ⟨p,us,rfl,g1,g2,g3,g4⟩:=ye7 ky2 (hv.ex ex2) e3;obtain ⟨w,rfl,hw⟩:=cH hv2 e4;obtain ⟨p2,us2,rfl,b1,b2⟩:=lsO_ok ky2 hw e5;obtain ⟨h1,h2⟩:=yd8 ky2 g1 g2 (g4.append b2);exact ⟨p,_,us,_,rfl,rfl,g3,b1,eY (by rw[g4.length,b2.length];exact z),q _ (y2.put j p _ _) ((ex.trans ex2).trans h1) rfl h2 .non⟩
 ·cases h
end
end Dp
namespace Dp
open PySem L2 PyProof.Rows Mx
section
variable {X:Cx}{e a b:Expr}{es:List Expr}{f g:FE}{fa:FA}{pos p q:Pos}{tg:Expr}
noncomputable def bz(fa:FA):FA:=λρ S=>(fa ρ S).bind λp=>(cq p.1).bind λd=>(qek d).bind λj=>if 0<=j/\j<=most then some ((õ j.toNat).map λi=>.d (.int (i:Nat)),p.2) else none
theorem it_rng{K:Kc}{L:Addr->Prop}{y:Wd}{n:Nat}:ItD K L (Itr 0 n) ((õ n).map λi=>.d (.int (i:Nat))) y:=λL2 z hl ez kz=>by
 refine ⟨by show n<=_;rw[Ð,π];exact Ò _,λi e h=>?_⟩;rw[Ĉ]at h;cases e1:(õ n)[i]? with
 |none=>rw[e1]at h;cases h
 |some m=>
  rw[e1]at h;cases h;obtain ⟨hi,rfl⟩:=É.mp e1;rw[List.getElem_range];rw[π]at hi;refine ⟨hi,λx H' y=>?_⟩;obtain ⟨rfl,rfl⟩:=y;rw[Int.zero_add];exact ⟨z,rfl,Ex.refl,rfl,kz,.int _⟩
theorem di_rng(hg:Gl X "range")(hm:X.mg "range"=none)(h:DA X [a] fa)(hs:bA a=true):DI X tg (.Call (.Name "range" p) [a] [] pos) (bz fa):=by
 obtain ⟨t,p1,d1⟩:=h;refine ⟨_,yjk hg hm p1 (bM hs),λL ρ σ x es S' R h k rl q=>?_⟩;obtain ⟨⟨ds,S1⟩,e1,h⟩:=bnd h;obtain ⟨d,e2,h⟩:=bnd h;obtain ⟨j,e3,h⟩:=bnd h;split at h
 ·rename_i z
  cases h;refine d1 L ρ σ x ds S1 _ e1 k rl λvs y ex ey ky hv=>?_;obtain ⟨v,rfl,hw⟩:=cH hv e2;cases qb9 hw e3;have:(most:Int)=100000:=rfl;exact ⟨j,rfl,by omega,by omega,q _ y ex ey ky it_rng⟩
 ·cases h
noncomputable def aY:Nat->List Â->List DV
 |_,[]=>[]
 |i,d::ds=>.d (.tuple [.int (i:Nat),d])::aY (i+1) ds
theorem qey:∀{ds:List Â}{k i:Nat}{e:DV},(aY k ds)[i]?=some e->∃d,ds[i]?=some d/\e=.d (.tuple [.int ((k+i:Nat):Int),d])
 |[],k,i,e,h=>by simp[aY]at h
 |d::ds,k,0,e,h=>by simp[aY]at h;exact ⟨d,rfl,h.symm⟩
 |d::ds,k,i+1,e,h=>by
  have h':(aY (k+1) ds)[i]?=some e:=by simpa [aY] using h
  obtain ⟨d',h1,h2⟩:=qey h';exact ⟨d',by simpa using h1,by rw[h2,show k+1+i=k+(i+1) by omega]⟩
theorem qev:∀(ds:List Â) (k:Nat),(aY k ds).length=ds.length
 |[],_=>rfl
 |_::ds,k=>congrArg (· + 1) (qev ds (k+1))
noncomputable def datF(f:FA):DEnv->OS->Option (List Â×OS):=λρ S=>(f ρ S).bind λp=>(cq p.1).bind λd=>(fz d p.2).bind λq=>match q.1 with
 |.list ds=>some (ds,q.2)
 |_=>none
noncomputable def cZ(fa:FA):FA:=λρ S=>(datF fa ρ S).map λp=>(aY 0 p.1,p.2)
theorem ycr{K:Kc}{H:Hp}{vs:List V}{ds:List Â}{i:Nat}{d:Â}(h:DtA K H vs ds)(g:ds[i]?=some d):∃v,vs[i]?=some v/\Dt K H v d:=by
 induction ds generalizing vs i with
 |nil=>simp at g
 |cons c cs ih=>
  cases h with
  |cons a t=>
   cases i with
   |zero=>simp at g;subst g;exact ⟨_,rfl,a⟩
   |succ n=>
    obtain ⟨v,h1,h2⟩:=ih (i:=n) t (by simpa using g);exact ⟨v,by simpa using h1,h2⟩
theorem yf9{K:Kc}{L:Addr->Prop}{z:Wd}{p:Addr}{u v:V}{d e:Â}(k:Ok K L z)(n:z.H p=none)(h1:Dt K (z.hp L) u d)(h2:Dt K (z.hp L) v e):∃z',z'.H=upd z.H p (.tup [u,v])/\Ex z z'/\z'.S=z.S/\Ok K L z'/\Hv K L z' (.ref p) (.d (.tuple [d,e])):=
 ⟨z.up p (.tup [u,v]),rfl,Ex.up n,rfl,k.up n,(cT k n (.cons h1 (.cons h2 .nil))).1⟩
theorem di_enu{ts:List Expr}{j:Nat}{tp:Pos}(hg:Gl X "enumerate")(hm:X.mg "enumerate"=none)(h:DA X [a] fa)(hs:bA a=true):DI X (.Tuple ts j tp) (.Call (.Name "enumerate" p) [a] [] pos) (cZ fa):=by
 obtain ⟨t,p1,d1⟩:=h;refine ⟨_,pi_enum hg hm p1 (bM hs),λL ρ σ x es S' R h k rl q=>?_⟩;obtain ⟨⟨ds,S2⟩,h,h0⟩:=Á.mp h;obtain ⟨⟨dd,S1⟩,e1,h⟩:=bnd h;obtain ⟨d,e2,h⟩:=bnd h;obtain ⟨⟨w,S3⟩,e3,h⟩:=bnd h;dsimp only at h;split at h
 ·cases h;cases h0;refine d1 L ρ σ x dd S1 _ e1 k rl λvs y ex ey ky hv=>?_;subst ey;obtain ⟨v,rfl,hw⟩:=cH hv e2;obtain ⟨x2,k2,a2⟩:=yin ky hw e3;cases a2 with
  |lst g1 g2=>
   refine ⟨_,_,rfl,cp (bJ _ _ g1),q _ { y with S:=S2 } (ex.trans x2) rfl k2 λL2 z hl ez kz=>?_⟩;have s:=ez.sameL hl;have h2:SqL X.K z.H _ _:=cp (bJ _ _ (s _ _ g1));refine ⟨⟨_,h2,by rw[qev,g2.length];exact Ò _⟩,λi e hi=>?_⟩;obtain ⟨d',hd,rfl⟩:=qey hi;obtain ⟨u,hu,au⟩:=ycr g2 hd;refine ⟨⟨_,u,h2,hu⟩,λv' H' yl=>?_⟩;obtain ⟨p',y',hp,rfl,rfl,hyy⟩:=yl;have:=hyy _ h2;rw[hu]at this;cases this;rw[Nat.zero_add];exact yf9 kz hp (.int _) (au.same s)
 ·cases h
noncomputable def bq:List Â->List Â->List DV
 |a::as,b::bs=>.d (.tuple [a,b])::bq as bs
 |_,_=>[]
theorem ygu:∀{as bs:List Â}{i:Nat}{e:DV},(bq as bs)[i]?=some e->∃a b,as[i]?=some a/\bs[i]?=some b/\e=.d (.tuple [a,b])
 |[],_,i,e,h=>by simp[bq]at h
 |_::_,[],i,e,h=>by simp[bq]at h
 |a::as,b::bs,0,e,h=>by simp[bq]at h;exact ⟨a,b,rfl,rfl,h.symm⟩
 |a::as,b::bs,i+1,e,h=>by
  obtain ⟨x,y,h1,h2,h3⟩:=ygu (as:=as) (bs:=bs) (i:=i) (e:=e) (by simpa [bq] using h);exact ⟨x,y,by simpa using h1,by simpa using h2,h3⟩
theorem ygm:∀(as bs:List Â),(bq as bs).length=min as.length bs.length
 |[],_=>by simp[bq]
 |_::_,[]=>by simp[bq]
 |_::as,_::bs=>by simp[bq,ygm as bs]
noncomputable def qjp:List DV->Option (DV×DV)
 |[a,b]=>some (a,b)
 |_=>none
theorem ygo{K:Kc}{L:Addr->Prop}{x:Wd}{vs:List V}{ds:List DV}{d:DV×DV}(h:HvA K L x vs ds)(e:qjp ds=some d):∃v u,vs=[v,u]/\Hv K L x v d.1/\Hv K L x u d.2:=by
 unfold qjp at e;split at e
 ·cases e;cases h with
  |cons a t=>cases t with
   |cons b t=>cases t;exact ⟨_,_,rfl,a,b⟩
 ·cases e
noncomputable def cE(fa:FA):FA:=λρ S=>(fa ρ S).bind λp=>(qjp p.1).bind λd=>(fz d.1 p.2).bind λq=>(fz d.2 q.2).bind λr=>(b8 q.1).bind λas=>(b8 r.1).map λbs=>(bq as bs,r.2)
theorem dt_sq{K:Kc}{H:Hp}{v:V}{d:Â}{as:List Â}(h:Dt K H v d)(e:b8 d=some as):∃t l vs,v=.ref l/\Sq K.K t H l vs/\DtA K H vs as:=by
 unfold b8 at e;split at e
 ·cases e;cases h with|lst g1 g2=>exact ⟨false,_,_,rfl,cp g1,g2⟩
 ·cases e;cases h with|tup g1 g2=>exact ⟨true,_,_,rfl,g1,g2⟩
 ·cases e
theorem Sq.same'{K:Kc}{H H':Hp}{t:Bool}{a:Addr}{vs:List V}(s:Same H H')(h:Sq K.K t H a vs):Sq K.K t H' a vs:=by
 cases t with
 |false=>exact SqL.same' s h
 |true=>exact SqT.same s h
end
end Dp
namespace Dp
open PySem L2 PyProof.Rows Mx
section
variable {X:Cx}{e a b:Expr}{es:List Expr}{f g:FE}{fa:FA}{pos p q:Pos}{tg:Expr}
theorem di_zip(hg:Gl X "zip")(hm:X.mg "zip"=none)(h:DA X [a,b] fa)(hs:([a,b]:List Expr).all bA=true):DI X (.Tuple ts j tp) (.Call (.Name "zip" p) [a,b] [] pos) (cE fa):=by
 obtain ⟨t,p1,d1⟩:=h;have hs':=hs;rw[Ĩ,Å]at hs';refine ⟨_,pi_zip hg hm p1 (bM hs'.1) (dF hs'.2),λL ρ σ x es S' R h k rl q=>?_⟩;obtain ⟨⟨dd,S1⟩,e1,h⟩:=bnd h;obtain ⟨d,e2,h⟩:=bnd h;obtain ⟨⟨w1,S2⟩,e3,h⟩:=bnd h;obtain ⟨⟨w2,S3⟩,e4,h⟩:=bnd h;obtain ⟨as,e5,h⟩:=bnd h;obtain ⟨bs,e6,h⟩:=Á.mp h;cases h;refine d1 L ρ σ x dd S1 _ e1 k rl λvs y ex ey ky hv=>?_;subst ey;obtain ⟨v,u,rfl,hw1,hw2⟩:=ygo hv e2;obtain ⟨x2,k2,a2⟩:=yin ky hw1 e3;obtain ⟨x3,k3,a3⟩:=yin (x:={ y with S:=S2 }) k2 (hw2.ex x2) e4;have a2:=a2.same x3.same;obtain ⟨t1,l1,vs1,rfl,g1,b1⟩:=dt_sq a2 e5;obtain ⟨t2,l2,vs2,rfl,g2,b2⟩:=dt_sq a3 e6;refine ⟨t1,t2,l1,l2,vs1,vs2,rfl,Sq.same' bJ g1,Sq.same' bJ g2,q _ { y with S:=S3 } ((ex.trans x2).trans x3) rfl k3 λL2 z hl ez kz=>?_⟩;have s:=ez.sameL hl;have h1:Sq X.K t1 z.H l1 vs1:=Sq.same' bJ (Sq.same' s g1);have h2:Sq X.K t2 z.H l2 vs2:=Sq.same' bJ (Sq.same' s g2);refine ⟨⟨vs1,vs2,h1,h2,?_⟩,λi e hi=>?_⟩
 ·rw[ygm,<-b1.length,<-b2.length,aX,aX];omega
 ·obtain ⟨da,db,ha,hb,rfl⟩:=ygu hi;obtain ⟨va,hva,aa⟩:=ycr b1 ha;obtain ⟨vb,hvb,ab⟩:=ycr b2 hb;refine ⟨⟨vs1,vs2,va,vb,h1,h2,hva,hvb⟩,λv' H' yl=>?_⟩;obtain ⟨p',u',v'',hp,rfl,rfl,hyy⟩:=yl;obtain ⟨h3,h4⟩:=hyy _ _ h1 h2;rw[hva]at h3;rw[hvb]at h4;cases h3;cases h4;exact yf9 kz hp (aa.same s) (ab.same s)
noncomputable def CbD(X:Cx)(r:List V->Hp->VK->Prop)(F:FF):Prop:=∀L x vs ds r' S' (Q:VK),Ok X.kc L x->HvA X.kc L x vs ds->F ds x.S=some (r',S')->(∀v y,Ex x y->y.S=S'->Ok X.kc L y->Hv X.kc L y v r'->Q v y.H)->r vs x.H Q
noncomputable def Bi(X:Cx)(nm:Str)(F:FF):Prop:=∃c,Ī nm=some c/\((∃id,c=.builtin id)\/∃T,c=.type T)/\∃r,bH X c r/\CbD X r F
noncomputable def orC(F G:FF):FF:=λds S=>(F ds S).or (G ds S)
theorem bi_or(h1:Bi X nm F)(h2:Bi X nm G):Bi X nm (orC F G):=by
 obtain ⟨c,e1,t1,r,a1,a2⟩:=h1;obtain ⟨c',e2,_,r',b1,b2⟩:=h2;rw[e1]at e2;cases e2;refine ⟨c,e1,t1,_,a1.or b1,λL x vs ds r1 S' Q k hv e q=>?_⟩;unfold orC at e;cases e3:F ds x.S with
 |some p=>rw[e3]at e;cases e;exact .inl (a2 L x vs ds r1 S' Q k hv e3 q)
 |none=>rw[e3,æ]at e;exact .inr (b2 L x vs ds r1 S' Q k hv e q)
theorem de_bi(h:Bi X nm F)(ha:DA X (e::es) fa)(hg:Gl X nm)(hm:X.mg nm=none)(hn:nm≠"__name__")(hdb:(nm == ("__debug__" : Str))=false)(hs:(e::es).all bA=true):DE X (.Call (.Name nm p) (e::es) [] pos) (č F fa):=by
 obtain ⟨t,p1,d1⟩:=ha;obtain ⟨c,e1,t1,r,c1,c2⟩:=h;have hs':=hs;rw[Ĩ,Å]at hs';have dn:Dn X.kc (tCB r t) (č F fa):=λL ρ σ x r S' Q h k rl q=>by
  obtain ⟨⟨ds,S1⟩,e1,h⟩:=bnd h;refine d1 L ρ σ x ds S1 _ e1 k rl λvs y ex ey ky hv=>?_;subst ey;exact c2 L y vs ds r S' Q ky hv h λv z ez=>q v z (ex.trans ez)
 rcases t1 with ⟨id,rfl⟩|⟨T,rfl⟩
 ·exact ⟨_,qep c1 hg hm e1 p1 hn hdb (bM hs'.1) (dF hs'.2),dn⟩
 ·exact ⟨_,ye4 c1 hg hm e1 p1 hn hdb (bM hs'.1) (dF hs'.2),dn⟩
noncomputable def lenC:FF:=λds S=>(cq ds).bind λd=>(sq d S).map λp=>(.d (.int p.2.length),S)
theorem bi_len:Bi X "len" lenC:=⟨_,boot_len,.inl ⟨_,rfl⟩,_,qfs,λL x vs ds r S' Q k hv e q=>by
 obtain ⟨d,e1,e⟩:=bnd e;obtain ⟨⟨t,es⟩,e2,e⟩:=Á.mp e;cases e;obtain ⟨v,rfl,hw⟩:=cH hv e1;obtain ⟨p,us,rfl,g1,g2⟩:=qip k hw e2;refine ⟨p,us,rfl,?_,q _ x Ex.refl rfl k (by rw[<-g2.length];exact .int _)⟩;cases t with
 |true=>exact .inr g1
 |false=>exact .inl g1⟩
noncomputable def qe2:DV->Option Str
 |.d (.str z)=>some z
 |_=>none
noncomputable def lenS:FF:=λds S=>(cq ds).bind λd=>(qe2 d).bind λz=>if z.length<=most then some (.d (.int z.length),S) else none
noncomputable def ax:FF:=λds S=>(cq ds).bind λd=>(cA d S).bind λp=>if p.1=true then (match d with|.d _=>some (d,S)|_=>none) else some (.d (.tuple p.2),S)
theorem bi_tup:Bi X "tuple" ax:=⟨_,boot_tuple,.inr ⟨_,rfl⟩,_,yer,λL x vs ds r S' Q k hv e q=>by
 obtain ⟨d,e1,e⟩:=bnd e;obtain ⟨⟨t,es⟩,e2,e⟩:=bnd e;obtain ⟨v,rfl,hw⟩:=cH hv e1;obtain ⟨p,us,rfl,g1,g2⟩:=qb1 k hw e2;dsimp only at e;cases t with
 |true=>
  rw[if_pos rfl]at e;split at e
  ·cases e;exact ⟨p,us,rfl,.inr ⟨g1,q _ x Ex.refl rfl k hw⟩⟩
  ·cases e
 |false=>
  rw[if_neg (by simp)]at e;cases e;exact ⟨p,us,rfl,.inl ⟨g1,λl n=>q _ (x.up l _) (Ex.up n) rfl (k.up n) (cT k n g2).1⟩⟩⟩
noncomputable def bX:FF:=λds S=>(cq ds).bind λd=>(cA d S).map λp=>(.d (.list p.2),S)
theorem bi_lst:Bi X "list" bX:=⟨_,boot_list,.inr ⟨_,rfl⟩,_,ycs,λL x vs ds r S' Q k hv e q=>by
 obtain ⟨d,e1,e⟩:=bnd e;obtain ⟨⟨t,es⟩,e2,e⟩:=Á.mp e;cases e;obtain ⟨v,rfl,hw⟩:=cH hv e1;obtain ⟨p,us,rfl,g1,g2⟩:=qb1 k hw e2;refine ⟨p,us,rfl,?_,λl n=>q _ (x.up l _) (Ex.up n) rfl (k.up n) (cT k n g2).2⟩;cases t with
 |true=>exact .inr g1
 |false=>exact .inl g1⟩
noncomputable def lstOC:FF:=λds S=>(cq ds).bind λd=>(sq d S).map λp=>(.r S.length,S++[.lst p.2])
theorem bi_lstO:Bi X "list" lstOC:=⟨_,boot_list,.inr ⟨_,rfl⟩,_,ycs,λL x vs ds r S' Q k hv e q=>by
 obtain ⟨d,e1,e⟩:=bnd e;obtain ⟨⟨t,es⟩,e2,e⟩:=Á.mp e;cases e;obtain ⟨v,rfl,hw⟩:=cH hv e1;obtain ⟨p,us,rfl,g1,g2⟩:=qip k hw e2;refine ⟨p,us,rfl,?_,λl n=>q _ (x.new l (.lst es) (.lst us)) (Ex.new k n) rfl (qj2 k n g2) (yb8 (e:=.d .none) k)⟩;cases t with
 |true=>exact .inr g1
 |false=>exact .inl g1⟩
noncomputable def absC:FF:=λds S=>(cq ds).bind λd=>(qek d).map λi=>(.d (.int (if i<0 then -i else i)),S)
theorem bi_abs:Bi X "abs" absC:=⟨_,boot_abs,.inl ⟨_,rfl⟩,_,call_abs,λL x vs ds r S' Q k hv e q=>by
 obtain ⟨d,e1,e⟩:=bnd e;obtain ⟨i,e2,e⟩:=Á.mp e;cases e;obtain ⟨v,rfl,hw⟩:=cH hv e1;cases qb9 hw e2;exact ⟨i,rfl,q _ x Ex.refl rfl k (.int _)⟩⟩
noncomputable def intC:FF:=λds S=>(cq ds).bind λd=>match d with
 |.d (.int i)=>some (.d (.int i),S)
 |.d (.bool b)=>some (.d (.int (if b then 1 else 0)),S)
 |_=>none
theorem bi_int:Bi X "int" intC:=⟨_,boot_int,.inr ⟨_,rfl⟩,_,qif,λL x vs ds r S' Q k hv e q=>by
 obtain ⟨d,e1,e⟩:=bnd e;obtain ⟨v,rfl,hw⟩:=cH hv e1;split at e
 ·cases e;cases hw;exact .inl ⟨_,rfl,q _ x Ex.refl rfl k (.int _)⟩
 ·cases e;cases hw;exact .inr ⟨_,rfl,q _ x Ex.refl rfl k (.int _)⟩
 ·cases e⟩
noncomputable def qeg:List Â->Option (List Int)
 |[]=>some []
 |.int i::r=>(qeg r).map (i :: ·)
 |_=>none
theorem qbw{K:Kc}{H:Hp}:∀{ds:List Â}{vs:List V}{ns:List Int},DtA K H vs ds->qeg ds=some ns->vs=ns.map V.int
 |[],_,_,.nil,h=>by cases h;rfl
 |d::ds,_,_,.cons a r,h=>by
  cases d with
  |int i=>
   obtain ⟨ns,e,rfl⟩:=Á.mp h;cases a;rw[qbw r e];rfl
  |_=>cases h
noncomputable def lstD:Â->Option (List Â)
 |.list a=>some a
 |_=>none
noncomputable def vwL(d:DV)(S:OS):Option (List Â):=(vw d S).bind lstD
theorem ygr{K:Kc}{L:Addr->Prop}{x:Wd}{v:V}{d:DV}{ds:List Â}(k:Ok K L x)(h:Hv K L x v d)(e:vwL d x.S=some ds):∃p vs,v=.ref p/\x.H p=some (.lst vs)/\DtA K x.H vs ds:=by
 obtain ⟨w,e1,e2⟩:=bnd e;have a:=qid k h e1;unfold lstD at e2;split at e2
 ·cases e2;cases a with
  |lst g1 g2=>exact ⟨_,_,rfl,g1,g2⟩
 ·cases e2
noncomputable def d9(c:Int->Int->Bool):FF:=λds S=>(cq ds).bind λd=>((vwL d S).bind qeg).bind λns=>(ns.find? λm=>ns.all λa=>c a m).map λm=>(.d (.int m),S)
theorem bi_max(hc:X.calm=true):Bi X "max" (d9 λa m=>decide (a<=m)):=⟨_,boot_max,.inl ⟨_,rfl⟩,_,qj0 hc,λL x vs ds r S' Q k hv e q=>by
 obtain ⟨d,e1,e⟩:=bnd e;obtain ⟨ns,e2,e⟩:=bnd e;obtain ⟨m,e3,e⟩:=Á.mp e;cases e;obtain ⟨dd,e4,e5⟩:=bnd e2;obtain ⟨v,rfl,hw⟩:=cH hv e1;obtain ⟨p,us,rfl,g1,g2⟩:=ygr k hw e4;cases qbw g2 e5;have hm:=Ź e3;refine ⟨p,ns,rfl,g1,Ι hm,λM hM hall=>?_⟩;have h0:(ns.all λa=>_)=true:=find?_some (p:=λm=>ns.all λa=>_) e3;have h1:=Û.mp h0 M hM;have h2:=hall m hm;simp only[decide_eq_true_eq]at h1;rw[show M=m by omega];exact q _ x Ex.refl rfl k (.int _)⟩
theorem bi_min(hc:X.calm=true):Bi X "min" (d9 λa m=>decide (m<=a)):=⟨_,boot_min,.inl ⟨_,rfl⟩,_,yjr hc,λL x vs ds r S' Q k hv e q=>by
 obtain ⟨d,e1,e⟩:=bnd e;obtain ⟨ns,e2,e⟩:=bnd e;obtain ⟨m,e3,e⟩:=Á.mp e;cases e;obtain ⟨dd,e4,e5⟩:=bnd e2;obtain ⟨v,rfl,hw⟩:=cH hv e1;obtain ⟨p,us,rfl,g1,g2⟩:=ygr k hw e4;cases qbw g2 e5;have hm:=Ź e3;refine ⟨p,ns,rfl,g1,Ι hm,λM hM hall=>?_⟩;have h0:(ns.all λa=>_)=true:=find?_some (p:=λm=>ns.all λa=>_) e3;have h1:=Û.mp h0 M hM;have h2:=hall m hm;simp only[decide_eq_true_eq]at h1;rw[show M=m by omega];exact q _ x Ex.refl rfl k (.int _)⟩
noncomputable def blsD:List Â->Option (List Bool)
 |[]=>some []
 |.bool i::r=>(blsD r).map (i :: ·)
 |_=>none
theorem yfw{K:Kc}{H:Hp}:∀{ds:List Â}{vs:List V}{ns:List Bool},DtA K H vs ds->blsD ds=some ns->vs=ns.map V.bl
 |[],_,_,.nil,h=>by cases h;rfl
 |d::ds,_,_,.cons a r,h=>by
  cases d with
  |bool i=>
   obtain ⟨ns,e,rfl⟩:=Á.mp h;cases a;rw[yfw r e];rfl
  |_=>cases h
noncomputable def allC(g:List Bool->Bool):FF:=λds S=>(cq ds).bind λd=>((vwL d S).bind blsD).map λbs=>(.d (.bool (g bs)),S)
theorem bi_all(hc:X.calm=true):Bi X "all" (allC λbs=>bs.all id):=⟨_,qiy,.inl ⟨_,rfl⟩,_,qka hc,λL x vs ds r S' Q k hv e q=>by
 obtain ⟨d,e1,e⟩:=bnd e;obtain ⟨bs,e2,e⟩:=Á.mp e;cases e;obtain ⟨dd,e4,e5⟩:=bnd e2;obtain ⟨v,rfl,hw⟩:=cH hv e1;obtain ⟨p,us,rfl,g1,g2⟩:=ygr k hw e4;cases yfw g2 e5;exact ⟨p,bs,rfl,g1,q _ x Ex.refl rfl k (.bl _)⟩⟩
theorem bi_any(hc:X.calm=true):Bi X "any" (allC λbs=>bs.any id):=⟨_,yj2,.inl ⟨_,rfl⟩,_,yjx hc,λL x vs ds r S' Q k hv e q=>by
 obtain ⟨d,e1,e⟩:=bnd e;obtain ⟨bs,e2,e⟩:=Á.mp e;cases e;obtain ⟨dd,e4,e5⟩:=bnd e2;obtain ⟨v,rfl,hw⟩:=cH hv e1;obtain ⟨p,us,rfl,g1,g2⟩:=ygr k hw e4;cases yfw g2 e5;exact ⟨p,bs,rfl,g1,q _ x Ex.refl rfl k (.bl _)⟩⟩
end
end Dp
namespace Dp
open PySem L2 PyProof.Rows Mx
section
variable {X:Cx}
noncomputable def strMulG:G2:=λa b S=>match a,b with
 |.d (.str z),.d (.int n)=>if 0<=n/\n<=100/\z.length<=100 then some (.d (.str (PySem.Txt.mul z n)),S) else none
 |_,_=>none
noncomputable def lsD(a:DV)(S:OS):Option (List Â):=(lsO a S).bind datas
theorem yg5{K:Kc}{L:Addr->Prop}{x:Wd}{v:V}{e:DV}{ds:List Â}(k:Ok K L x)(h:Hv K L x v e)(f:lsD e x.S=some ds):∃p vs,v=.ref p/\x.H p=some (.lst vs)/\DtA K (x.hp L) vs ds:=by
 obtain ⟨es,e1,e2⟩:=bnd f;obtain ⟨p,vs,rfl,h1,h2⟩:=lsO_ok k h e1;exact ⟨p,vs,rfl,h1,h2.datas e2⟩
noncomputable def qfu:G2:=λa b S=>match b with
 |.d (.int n)=>(lsD a S).bind λds=>if 0<=n/\ds.length*n.toNat<=most/\n<=most then some (.d (.list (Ă n.toNat ds).flatten),S) else none
 |_=>none
theorem qh0:Op2 X (Ń .Mult) qfu:=⟨_,op_rep,λL x u v du dv r S' Q k hu hv e q=>by
 unfold qfu at e;split at e
 ·rename_i n
  obtain ⟨ds,e1,e⟩:=bnd e;split at e
  ·rename_i z
   obtain ⟨z1,z2,z3⟩:=z;cases e;obtain ⟨p,vs,rfl,g1,a1⟩:=yg5 k hu e1;cases hv;have:(most:Int)=100000:=rfl;exact ⟨p,n,vs,rfl,rfl,g1,by omega,by omega,eY (by rw[a1.length];exact z2),λl nl=>q _ (x.up l _) (Ex.up nl) rfl (k.up nl) (cT k nl (a1.rep _)).2⟩
  ·cases e
 ·cases e⟩
noncomputable def ł:G2:=dZ (iG (· + ·)) (dZ (bZ false) (dZ (bZ true) fc))
noncomputable def bo:G2:=dZ (cG (λi j=>smB i||smB j) (· * ·)) qfu
noncomputable def cN:G2:=cG (λ_ j=>decide (0<j)&&decide (j<=18446744073709551616)) (· / ·)
noncomputable def ap:G2:=cG (λ_ j=>decide (0<j)) (· % ·)
noncomputable def fv:G2:=cG (λi j=>decide (0<=j)&&decide (j<=1000000)&&decide (i.natAbs<2 ^ 64)) λi j=>i ^ j.toNat
noncomputable def cV:G2:=iG (· - ·)
noncomputable def binG:Operator->Option G2
 |.Add=>some ł
 |.Sub=>some cV
 |.Mult=>some bo
 |.FloorDiv=>some cN
 |.Mod=>some ap
 |.Pow=>some fv
 |_=>none
theorem binG_ok(h:binG op=some g):Op2 X (Ń op) g:=by
 cases op<;>first|(cases h;done)|cases h
 ·exact yd2 (op2_i op_add) (yd2 op2_catL (yd2 op2_catT op2_str))
 ·exact op2_i op_sub
 ·refine yd2 (op2_c op_mul λi j h=>?_) qh0;unfold smB at h;simp only[τ,Å,decide_eq_true_eq]at h;exact h
 ·refine op2_c op_mod λi j h=>?_
  simpa using h
 ·refine op2_c op_pow λi j h=>?_;simp only[Å,decide_eq_true_eq]at h;exact ⟨h.1.1,h.1.2,h.2⟩
 ·refine op2_c op_fdivB λi j h=>?_;simp only[Å,decide_eq_true_eq]at h;exact h
end
end Dp
namespace Dp
open PySem L2 PyProof.Rows Mx
section
variable {X:Cx}{e a b o:Expr}{es:List Expr}{f g:FE}{fa:FA}{pos p apos:Pos}{tg:Expr}
noncomputable def yd3:Expr->Bool
 |.Call _ [] _ _=>false
 |_=>true
theorem ybj(h:yd3 o=true):Ű o nm env (eval o env)=eval o env:=by
 cases o with
 |Call f as ks ps=>cases as with
  |nil=>cases h
  |cons a as=>cases f<;>(unfold Ű;rfl)
 |_=>rfl
theorem yhe{K:Kc}{L:Addr->Prop}{x:Wd}{nm:Str}{d:DV}:∀{fs:List (Str×DV)}{vs:List V},HvA K L x vs (fs.map (·.2))->fs.lookup nm=some d->∃v,((fs.map (·.1)).zip vs).lookup nm=some v/\Hv K L x v d
 |[],_,_,h=>by cases h
 | (n,d')::fs,_,.cons a t,h=>by
  rw[Ĕ]at h;cases e:nm == n with
  |true=>
   rw[e]at h;cases h;exact ⟨_,by rw[þ,Θ,Ĕ];dsimp only;rw[e],a⟩
  |false=>
   rw[e]at h;obtain ⟨v,h1,h2⟩:=yhe t h;exact ⟨v,by rw[þ,Θ,Ĕ];dsimp only;rw[e];exact h1,h2⟩
theorem qg3:∀{fs:List (Str×DV)}{vs:List V},fs.lookup nm=none->((fs.map (·.1)).zip vs).lookup nm=none
 |[],_,_=>by simp
 | (n,d')::fs,[],h=>by simp
 | (n,d')::fs,v::vs,h=>by
  rw[Ĕ]at h;cases e:nm == n with
  |true=>rw[e]at h;cases h
  |false=>
   rw[e]at h;rw[þ,Θ,Ĕ];dsimp only;rw[e];exact qg3 h
noncomputable def bW(f:Str)(v:DV):List (Str×DV)->List (Str×DV)
 |[]=>[(f,v)]
 | (g,x)::r=>if g=f then (g,v)::r else (g,x)::bW f v r
theorem yiz{K:Kc}{L:Addr->Prop}{x y:Wd}{nm:Str}{d:DV}{v:V}(hv:Hv K L y v d)(imp:∀v e,Hv K L x v e->Hv K L y v e):∀{fs:List (Str×DV)}{vs:List V},HvA K L x vs (fs.map (·.2))->∃vs',aR nm v ((fs.map (·.1)).zip vs)=((bW nm d fs).map (·.1)).zip vs'/\HvA K L y vs' ((bW nm d fs).map (·.2))
 |[],_,.nil=>⟨[v],rfl,.cons hv .nil⟩
 | (n,d')::fs,_,.cons (v:=v0) (vs:=vs0) a t=>by
  by_cases z:n=nm
  ·subst z;refine ⟨v::vs0,?_,?_⟩
   ·simp[bW,aR]
   ·simp only[bW,if_true,þ];exact .cons hv (t.imp imp)
  ·obtain ⟨vs',h1,h2⟩:=yiz hv imp t;refine ⟨v0::vs',?_,?_⟩
   ·simp only[bW,if_neg z,þ,Θ,aR];rw[h1]
   ·simp only[bW,if_neg z,þ];exact .cons (imp _ _ a) h2
noncomputable def FldOk(X:Cx)(cs:List Str)(nm:Str):Prop:=∀c∈cs,∃C,X.mg c=some (.ref C)/\Cls X.K C/\qcx X.K C nm
noncomputable def bp(cs:List Str)(nm:Str)(f:FE):FE:=λρ S=>(f ρ S).bind λp=>match p.1 with
 |.r i=>match p.2[i]? with
  |some (.ins c fs)=>if cs.contains c then (fs.lookup nm).map λd=>(d,p.2) else none
  |_=>none
 |_=>none
theorem de_fld{cs:List Str}{nm:Str}(hc:FldOk X cs nm)(hb:yd3 o=true)(h:DE X o f):DE X (.Attribute o nm pos) (bp cs nm f):=by
 obtain ⟨t,p1,d1⟩:=h;refine ⟨_,pe_fld p1 (ybj hb),λL ρ σ x r S' Q h k rl q=>?_⟩;obtain ⟨⟨r1,S1⟩,e1,h⟩:=bnd h;dsimp only at h;split at h
 ·rename_i i
  split at h
  ·rename_i c fs hs
   split at h
   ·rename_i hm
    obtain ⟨d,e2,h⟩:=Á.mp h;cases h;refine d1 L ρ σ x _ _ _ e1 k rl λv y ex ey ky hv=>?_;subst ey;obtain ⟨a,h1,rfl⟩:=hv;obtain ⟨C,dx,vs,h0,h2,h3⟩:=ky.obj i _ a hs h1;obtain ⟨C',g0,g1,g2⟩:=hc c (by simpa using hm);rw[show X.kc.mg c=X.mg c from rfl,g0]at h0;cases h0;obtain ⟨v,l1,l2⟩:=yhe h3 e2;exact ⟨a,_,dx,_,v,rfl,h2,g1,g2,l1,q v y ex rfl ky l2⟩
   ·cases h
  ·cases h
 ·cases h
noncomputable def fu(cs:List Str)(nm:Str)(f g:FE):FS:=λρ S=>(g ρ S).bind λv=>(f ρ v.2).bind λp=>match p.1 with
 |.r i=>match p.2[i]? with
  |some (.ins c fs)=>if cs.contains c/\fs.length<900 then some (.nx ρ,p.2.set i (.ins c (bW nm v.1 fs))) else none
  |_=>none
 |_=>none
theorem ds_fld{cs:List Str}{nm:Str}{p':Pos}(hc:FldOk X cs nm)(h1:DE X o f)(h2:DE X e g)(hn:eW e=true):DS X (.Assign [.Attribute o nm p'] e pos) (fu cs nm f g):=by
 obtain ⟨t,p1,d1⟩:=h1;obtain ⟨u,p2,d2⟩:=h2;refine ⟨_,ps_fld p1 p2 (qj6 hn),λL ρ σ x r S' D h k rl q=>?_⟩;obtain ⟨⟨r0,S0⟩,e0,h⟩:=bnd h;obtain ⟨⟨r1,S1⟩,e1,h⟩:=bnd h;dsimp only at h;split at h
 ·rename_i i
  split at h
  ·rename_i c fs hs
   split at h
   ·rename_i hm
    cases h;refine d2 L ρ σ x r0 S0 _ e0 k rl λv0 y0 ex0 ey0 ky0 hv0=>?_;subst ey0;refine d1 L ρ σ y0 _ _ _ e1 ky0 (rl.ex ex0) λv y ex ey ky hv=>?_;subst ey;obtain ⟨a,h1,rfl⟩:=hv;obtain ⟨C,dx,vs,h0,h2,h3⟩:=ky.obj i _ a hs h1;obtain ⟨C',g0,g1,g2⟩:=hc c (by simpa using hm.1);rw[show X.kc.mg c=X.mg c from rfl,g0]at h0;cases h0;refine ⟨a,C,dx,_,rfl,h2,g1,g2,?_,?_⟩
    ·rw[List.length_zip,Ð];have:=hm.2;omega
    ·have e2:∀u,Ex y (y.put i a (.ins c (bW nm r0 fs)) u):=λu=>Ex.put ky h1 hs rfl;obtain ⟨vs',z1,z2⟩:=yiz (nm:=nm) (K:=X.kc) (L:=L) (x:=y) (y:=y.put i a (.ins c (bW nm r0 fs)) (.ins C dx (aR nm v0 ((fs.map (·.1)).zip vs)))) ((hv0.ex ex).ex (e2 _)) (λv e q=>q.ex (e2 _)) h3;refine q σ (y.put i a _ _) ((ex0.trans ex).trans (e2 _)) rfl (ky.put h1 hs rfl ⟨C,dx,vs',g0,?_,z2⟩) (rl.ex ((ex0.trans ex).trans (e2 _)));show upd _ _ _ _=_;rw[bB,z1]
   ·cases h
  ·cases h
 ·cases h
noncomputable def cK(m:Str)(ms:List (Str×FF))(f:FE)(fa:FA):FE:=λρ S=>(f ρ S).bind λp=>match p.1 with
 |.r i=>match p.2[i]? with
  |some (.ins c fs)=>if (fs.lookup m).isNone then (fa ρ p.2).bind λq=>(ms.lookup c).bind λF=>F (.r i::q.1) q.2 else none
  |_=>none
 |_=>none
noncomputable def qfb(X:Cx)(n:Nat)(m:Str)(ms:List (Str×FF)):Prop:=∀c F,ms.lookup c=some F->∃C k ps,X.mg c=some (.ref C)/\Cls X.K C/\k<=n/\HasM X.prog X.w X.K X.mg X.base C k m ps (bj X.kc F)
theorem pe_all{ι:Type}{T:ι->TE}{pr:ι->Prop}(h:∀i,pr i->PE X e (T i)):PE X e λσ H Q=>∃i,pr i/\T i σ H Q:=λpins s σ H Q I ⟨i,hi,hq⟩=>h i hi pins s σ H Q I hq
structure CallOk(X:Cx)(o:Expr)(es:List Expr)(apos pos:Pos):Prop where
 plain:yd3 o=true
 star:es.all bA=true
 few:es.length<28
 line:(apos.endLine == pos.line)=true
theorem CallOk.form(h:CallOk X o es apos pos):((ľ pos (â es X.env)).all (λx=>!x.1)&&(backToKw pos (ť [] X.env)).all (λx=>x.1.isSome)&&decide (es.length+([]:List Keyword).length+(if ([]:List Keyword).isEmpty then 0 else 1)<30))=true:=by
 have h1:=dF (pos:=pos) (env:=X.env) h.star;have h2:(ľ pos (â es X.env)).all (λx=>!x.1)=true:=by
  rw[Û];intro x hx;cases e:x.1 with
  |false=>rfl
  |true=>rw[List.any_eq_false]at h1;exact absurd e (h1 x hx)
 have h3:=h.few;rw[h2];simp only[length_nil,List.isEmpty_nil,if_true,Bool.true_and,Nat.add_zero];rw[decide_eq_true (by omega:es.length<30)];rfl
theorem CallOk.call(h:CallOk X o es apos pos):eval (.Call (.Attribute o m apos) es [] pos) X.env=(do
   let ov <-eval o X.env
   standAt apos.atName
   let (f,first) <-holding [ov] (getMethod ov m (do return (<-importBound o X.env).getD true))
   callWith pos f first (ľ pos (â es X.env)) (backToKw pos (ť [] X.env))):=by
 have hf:methodCallForm (es.length+([]:List Keyword).length) (ľ pos (â es X.env)) (backToKw pos (ť [] X.env))=true:=h.form;rw[arm_eval_Call,ybj h.plain];unfold methodCall;rw[hf];unfold methodCallPos calleeOf;simp only[h.line,Ţ,Bool.or_true,if_true,pure_bind]
theorem qh8(hm:∀c F,ms.lookup c=some F->∃C,X.mg c=some (.ref C))(d1:Dn X.kc t f)(d2:DnA X.kc u fa):Dn X.kc (λσ H Q=>∃i:Str×FF×Addr,(ms.lookup i.1=some i.2.1/\X.mg i.1=some (.ref i.2.2))/\tMeth i.2.2 m (bj X.kc i.2.1) [] E0 t u σ H Q) (cK m ms f fa):=λL ρ σ x r S' Q h k rl q=>by
 obtain ⟨⟨r1,S1⟩,e1,h⟩:=bnd h;dsimp only at h;split at h
 ·rename_i j
  split at h
  ·rename_i c fs hs
   split at h
   ·rename_i hn
    obtain ⟨⟨ds,S2⟩,e2,h⟩:=bnd h;obtain ⟨F,e3,h⟩:=bnd h;obtain ⟨C,hC⟩:=hm c F e3;refine ⟨(c,F,C),⟨e3,hC⟩,d1 L ρ σ x _ _ _ e1 k rl λv y ex ey ky hv=>?_⟩;subst ey;obtain ⟨a,h1,rfl⟩:=hv;obtain ⟨C',dx,vs,h0,h2,h3⟩:=ky.obj j _ a hs h1;rw[show X.kc.mg c=X.mg c from rfl,hC]at h0;cases h0;refine ⟨a,dx,_,rfl,h2,qg3 (Option.isNone_iff_eq_none.mp hn),d2 L ρ σ y _ _ _ e2 ky (rl.ex ex) λvs z ez eS kz hz=>?_⟩;subst eS;rw[Ĺ];exact ⟨L,z,.r j::ds,r,S',rfl,kz,.cons ⟨a,ez.pre j a h1,rfl⟩ hz,h,λv w ew=>q v w ((ex.trans ez).trans ew)⟩
   ·cases h
  ·cases h
 ·cases h
theorem qfb.cls(hm:qfb X n m ms):∀c F,ms.lookup c=some F->∃C,X.mg c=some (.ref C):=λc F h=>let ⟨C,_,_,g,_⟩:=hm c F h;⟨C,g⟩
theorem de_meth{n:Nat}{m:Str}{ms:List (Str×FF)}(hr:Room n X.A)(hm:qfb X n m ms)(h1:DE X o f)(h2:DA X (e::es) fa)(hc:CallOk X o (e::es) apos pos):DE X (.Call (.Attribute o m apos) (e::es) [] pos) (cK m ms f fa):=by
 obtain ⟨t,p1,d1⟩:=h1;obtain ⟨u,p2,d2⟩:=h2;refine ⟨_,pe_all λ⟨c,F,C⟩ ⟨hl,hC⟩=>?_,qh8 hm.cls d1 d2⟩;obtain ⟨C',k,ps,g0,g1,gk,g,fd,g2,g3,g4⟩:=hm c F hl;rw[g0]at hC;cases hC;have hs:=hc.star;rw[Ĩ,Å]at hs;exact pe_meth p1 g1 g2 g4 (hr.mono gk) g3 .nil qiq p2 (bM hs.1) (dF hs.2) hc.call
theorem de_meth0{n:Nat}{m:Str}{ms:List (Str×FF)}(hr:Room n X.A)(hm:qfb X n m ms)(h1:DE X o f)(hc:CallOk X o [] apos pos):DE X (.Call (.Attribute o m apos) [] [] pos) (cK m ms f Î):=by
 obtain ⟨t,p1,d1⟩:=h1;refine ⟨_,pe_all λ⟨c,F,C⟩ ⟨hl,hC⟩=>?_,qh8 hm.cls d1 (u:=tNil) λL ρ σ x r S' Q h k rl q=>by cases h;exact q [] x Ex.refl rfl k .nil⟩;obtain ⟨C',k,ps,g0,g1,gk,g,fd,g2,g3,g4⟩:=hm c F hl;rw[g0]at hC;cases hC;exact pe_meth0 p1 g1 g2 g4 (hr.mono gk) g3 .nil qiq hc.call
noncomputable def yf3(c:Str)(F:FF)(fa:FA):FE:=λρ S=>(fa ρ S).bind λp=>(F (.r p.2.length::p.1) (p.2++[.ins c []])).bind λq=>match q.1 with
 |.d .none=>some (.r p.2.length,q.2)
 |_=>none
theorem de_make(hr:Room n X.A)(hC:X.mg c=some (.ref C))(h:HasI X.prog X.w X.K X.mg X.base C k c ps (bj X.kc F))(hk:k+1<=n)(h1:DA X (e::es) fa)(hg:Gl X c)(hdb:(c == ("__debug__" : Str))=false)(hs:(e::es).all bA=true):DE X (.Call (.Name c p) (e::es) [] pos) (yf3 c F fa):=by
 obtain ⟨t,p1,d1⟩:=h1;obtain ⟨f,fd,g0,g1,g2,g3⟩:=h;rw[Ĩ,Å]at hs;refine ⟨_,pe_make g1 g3 (hr.mono hk) hg g0 g2 .nil qiq p1 hdb (bM hs.1) (dF hs.2),λL ρ σ x r S' Q h k rl q=>?_⟩;obtain ⟨⟨ds,S1⟩,e1,h⟩:=bnd h;obtain ⟨⟨r2,S2⟩,e2,h⟩:=bnd h;dsimp only at h;split at h
 ·cases h;refine d1 L ρ σ x ds S1 _ e1 k rl λvs y ex ey ky hv a dx na nd ne=>?_;subst ey;have ex1:Ex y (y.up dx (.own a)):=Ex.up nd;have ky1:=ky.up (o:=.own a) nd;have na1:(y.up dx (.own a)).H a=none:=by
   show upd y.H dx _ a=none;rw[Δ (λz=>ne z.symm)];exact na
  have ex2:=Ex.new (o:=.ins c []) (u:=.ins C dx []) ky1 na1;have ky2:=ky1.new (o:=.ins c []) (u:=.ins C dx []) na1 ⟨C,dx,[],hC,bB,.nil⟩;rw[Ĺ];refine ⟨L,_,_,_,_,rfl,ky2,.cons (yb8 (e:=.d .none) ky1) (hv.ex (ex1.trans ex2)),e2,λv z ez eS kz hz=>?_⟩;cases hz;have hr:Hv X.kc L _ (.ref a) _:=(yb8 (p:=a) (o:=.ins c []) (u:=.ins C dx []) (e:=.d .none) ky1:Hv X.kc L _ _ (.r _)).ex ez;exact ⟨rfl,q _ z (((ex.trans ex1).trans ex2).trans ez) eS kz hr⟩
 ·cases h
noncomputable def isT(T:String):Â->Bool
 |.none=>T == "NoneType"
 |.bool _=>T == "bool" || T == "int"
 |.int _=>T == "int"
 |.str _=>T == "str"
 |.list _=>T == "list"
 |.tuple _=>T == "tuple"
 |.dict _=>T == "dict"
noncomputable def tyB(T:String):Bool:=T == "bool" || T == "int" || T == "str" || T == "list" || T == "tuple"
theorem qeh{K:Þ}{T:String}(h:tyB T=true)(d:Â):W.kitOne K (tyD d) (.type T)=some (isT T d):=by
 unfold tyB at h;simp only[τ,beq_iff_eq]at h;rcases h with (((rfl|rfl)|rfl)|rfl)|rfl<;>cases d<;>rfl
noncomputable def bQ(T:String)(f:FE):FE:=λρ S=>(f ρ S).bind λp=>match p.1 with
 |.d d=>some (.d (.bool (isT T d)),p.2)
 |.r i=>match p.2[i]? with
  |some (.lst _)=>some (.d (.bool (isT T (.list []))),p.2)
  |some (.frz _)=>some (.d (.bool (isT T (.list []))),p.2)
  |some (.dk _)=>some (.d (.bool (isT T (.dict []))),p.2)
  |_=>none
noncomputable def rIsiD(K:Kc):List V->Hp->VK->Prop:=λxs H Q=>∃x T d b,xs=[x,.ty T]/\(Dt K H x d\/TyOf K.K H x (tyD d))/\W.kitOne K.K (tyD d) (.type T)=some b/\Q (.bl b) H
theorem yi8:bH X (.builtin "isinstance") (rIsiD X.kc):=by
 intro pins s σ H xs us Q I r h;obtain ⟨x,T,d,b,rfl,ht,hk,q⟩:=h;have main:(Dt X.kc H x d->TyOf X.K H x (tyD d)\/∃a vs,x=.ref a/\SqT X.K H a vs/\tyD d=.type "tuple"):=λh=>by
  cases h with
  |non=>exact .inl .non
  |bl b=>exact .inl (.bl b)
  |int i=>exact .inl (.int i)
  |str z=>exact .inl (.str z)
  |lst e _=>exact .inl (.lst e)
  |tup e _=>exact .inr ⟨_,_,rfl,e,rfl⟩
 rcases ht.elim main .inl with ht|⟨a,vs,rfl,hq,et⟩
 ·exact call_isi pins s σ H [x,.ty T] us Q I r ⟨x,T,_,b,rfl,ht,hk,q⟩
 ·cases r with
  |cons r rr=>
   cases rr with
   |cons r' rr=>
    cases rr;cases r';cases r;obtain ⟨its,_,⟨o,h1,h2,_⟩,_⟩:=I.tuple hq;rw[et]at hk;exact Ŭ W.kitx_tuple I.kIn ⟨o,h1,h2⟩ hk (λz=>nomatch z) λtk=>⟨.bl b,H,I.tok _,rfl,q⟩
theorem de_isi(hT:tyB T=true)(hb:Ī nm=some (.type T))(hg:Gl X "isinstance")(hm:X.mg "isinstance"=none)(hg2:Gl X nm)(hm2:X.mg nm=none)(hn:nm≠"__name__")(hdb:(nm == ("__debug__" : Str))=false)(hs:bA e=true)(h:DE X e f):DE X (.Call (.Name "isinstance" p) [e,.Name nm q] [] pos) (bQ T f):=by
 obtain ⟨t,p1,d1⟩:=h;refine ⟨_,qep yi8 hg hm boot_isinstance (ybe p1 (ybe (pe_bltn (v:=.ty T) hg2 hm2 hb rfl hn hdb) ydk) (bM hs)) (by decide) (by decide) (bM hs),λL ρ σ x r S' Q h k rl qq=>?_⟩;obtain ⟨⟨r1,S1⟩,e1,h⟩:=bnd h;refine d1 L ρ σ x r1 S1 _ e1 k rl λv y ex ey ky hv=>?_;subst ey;show rIsiD X.kc [v,.ty T] y.H Q;dsimp only at h;split at h
 ·rename_i d
  cases h;exact ⟨v,T,d,_,rfl,.inl (Dt.same bJ hv),qeh hT d,qq _ y ex rfl ky (.bl _)⟩
 ·rename_i i
  obtain ⟨a,h1,rfl⟩:=hv;split at h
  ·rename_i es hs
   cases h;obtain ⟨vs,h2,_⟩:=ky.obj i _ a hs h1;exact ⟨_,T,.list [],_,rfl,.inr (.lst h2),qeh hT _,qq _ y ex rfl ky (.bl _)⟩
  ·rename_i ds hs
   cases h;obtain ⟨vs,h2,_⟩:=ky.obj i _ a hs h1;exact ⟨_,T,.list [],_,rfl,.inr (.lst (bJ _ _ h2)),qeh hT _,qq _ y ex rfl ky (.bl _)⟩
  ·rename_i ps hs
   cases h;obtain ⟨vs,h2,_⟩:=ky.obj i _ a hs h1;exact ⟨_,T,.dict [],_,rfl,.inr (.dK h2),qeh hT _,qq _ y ex rfl ky (.bl _)⟩
  ·cases h
noncomputable def twoI(g:Int->Int->Int):FF:=λds S=>(qjp ds).bind λd=>(qek d.1).bind λi=>(qek d.2).map λj=>(.d (.int (g i j)),S)
theorem bi_max2(hc:X.calm=true):Bi X "max" (twoI λi j=>if j>i then j else i):=⟨_,boot_max,.inl ⟨_,rfl⟩,_,qjy hc,λL x vs ds r S' Q k hv e q=>by
 obtain ⟨d,e1,e⟩:=bnd e;obtain ⟨i,e2,e⟩:=bnd e;obtain ⟨j,e3,e⟩:=Á.mp e;cases e;obtain ⟨v,u,rfl,h1,h2⟩:=ygo hv e1;cases qb9 h1 e2;cases qb9 h2 e3;exact ⟨i,j,rfl,q _ x Ex.refl rfl k (.int _)⟩⟩
theorem bi_min2(hc:X.calm=true):Bi X "min" (twoI λi j=>if j<i then j else i):=⟨_,boot_min,.inl ⟨_,rfl⟩,_,qkd hc,λL x vs ds r S' Q k hv e q=>by
 obtain ⟨d,e1,e⟩:=bnd e;obtain ⟨i,e2,e⟩:=bnd e;obtain ⟨j,e3,e⟩:=Á.mp e;cases e;obtain ⟨v,u,rfl,h1,h2⟩:=ygo hv e1;cases qb9 h1 e2;cases qb9 h2 e3;exact ⟨i,j,rfl,q _ x Ex.refl rfl k (.int _)⟩⟩
noncomputable def popF(f:FE):FE:=λρ S=>(f ρ S).bind λp=>(dq p.1 p.2).bind λo=>(o.2[o.2.length-1]?).map λd=>(d,p.2.set o.1 (.lst o.2.dropLast))
theorem HvA.dropLast{K:Kc}{L:Addr->Prop}{x:Wd}{vs:List V}{es:List DV}(h:HvA K L x vs es):HvA K L x vs.dropLast es.dropLast:=by
 induction h with
 |nil=>exact .nil
 |cons a t ih=>
  cases t with
  |nil=>exact .nil
  |cons b t=>exact .cons a ih
theorem de_pop(hc:CallOk X o [] apos pos)(h1:DE X o f):DE X (.Call (.Attribute o "pop" apos) [] [] pos) (popF f):=by
 obtain ⟨t,p1,d1⟩:=h1;refine ⟨_,pe_bm0 a8 PySem.F.slot_list_pop PySem.F.type_list_pop mt_pop p1 (ybj hc.plain) hc.line,λL ρ σ x r S' Q h k rl q=>?_⟩;obtain ⟨⟨r1,S1⟩,e1,h⟩:=bnd h;obtain ⟨⟨j,es⟩,e0,h⟩:=bnd h;obtain ⟨d,e2,h⟩:=Á.mp h;cases h;refine d1 L ρ σ x r1 S1 _ e1 k rl λv y ex ey ky hv=>?_;subst ey;obtain ⟨p,us,rfl,g1,g2,g3,g4⟩:=ye7 ky hv e0;obtain ⟨w,hw,aw⟩:=g4.get e2;obtain ⟨h1,h2⟩:=yd8 ky g1 g2 g4.dropLast;exact ⟨qjx ky hv e0,p,us,w,rfl,rfl,g3,by rw[g4.length];exact hw,q _ (y.put j p _ _) (ex.trans h1) rfl h2 (aw.ex h1)⟩
end
end Dp
namespace Dp
open PySem PySem.Spec L2 PyProof.Rows Mx
noncomputable def aK(ps:List (Â×DV))(k:Â):Option DV:=(ps.find? λe=>ì e.1 k).map (·.2)
noncomputable def ay(ps:List (Â×DV))(k:Â)(v:DV):List (Â×DV):=if (aK ps k).isSome then ps.map λe=>if ì e.1 k then (e.1,v) else e else ps++[(k,v)]
noncomputable def bE(k:Â):Bool:=match k with
 |.tuple _=>ŧ k&&decide (k.depth<=6)
 |_=>false
noncomputable def fA(k:Â):Option Key:=match k with
 |.int i=>some (.inl i)
 |.str z=>some (.inr z)
 |_=>none
theorem ygg(h:fA k=some q):kD q=k:=by
 unfold fA at h;split at h<;>cases h<;>rfl
theorem eqv_K(p q:Key):ì (kD p) (kD q)=decide (p=q):=by
 rcases p with i|i<;>rcases q with j|j
 ·show (decide (i=j))=_;simp
 ·show false=_;simp
 ·show false=_;simp
 ·show (decide (i=j))=_;simp
theorem kD_at{K:Kc}{H:Hp}{v:V}{q:Key}(h:Dt K H v (kD q)):v=kV q:=by
 cases q<;>cases h<;>rfl
noncomputable abbrev Ps:=List (Â×V)
noncomputable def br(l:Ps)(k:Â):Option V:=(l.find? λe=>ì e.1 k).map (·.2)
noncomputable def cv(l:Ps)(k:Â)(v:V):Ps:=if (br l k).isSome then l.map λe=>if ì e.1 k then (e.1,v) else e else l++[(k,v)]
structure PsAt(K:Kc)(L:Addr->Prop)(x:Wd)(l:Ps)(ps:List (Â×DV)):Prop where
 ks:l.map (·.1)=ps.map (·.1)
 vs:HvA K L x (l.map (·.2)) (ps.map (·.2))
section
variable {K:Kc}{L:Addr->Prop}{x y:Wd}{l:Ps}{ps:List (Â×DV)}{k:Â}{v:V}{d:DV}
theorem PsAt.cases(h:PsAt K L x (p::l) ps):∃d ps',ps=(p.1,d)::ps'/\Hv K L x p.2 d/\PsAt K L x l ps':=by
 obtain ⟨h1,h2⟩:=h;cases ps with
 |nil=>cases h1
 |cons q ps'=>
  obtain ⟨k,d⟩:=q;cases h2 with
  |cons a t=>
   simp only[þ,Ś]at h1;exact ⟨d,ps',by rw[h1.1],a,h1.2,t⟩
theorem PsAt.cons(a:Hv K L x v d)(h:PsAt K L x l ps):PsAt K L x ((k,v)::l) ((k,d)::ps):=⟨by simp[h.ks],.cons a h.vs⟩
theorem PsAt.nilE(h:PsAt K L x [] ps):ps=[]:=by
 cases ps with
 |nil=>rfl
 |cons p ps=>cases h.ks
theorem PsAt.val(h:PsAt K L x l ps):(br l k=none/\aK ps k=none)\/∃v d,br l k=some v/\aK ps k=some d/\Hv K L x v d:=by
 induction l generalizing ps with
 |nil=>rw[h.nilE];exact .inl ⟨rfl,rfl⟩
 |cons p l ih=>
  obtain ⟨d,ps',rfl,a,t⟩:=h.cases;unfold br aK;rw[Ŋ,Ŋ];dsimp only;cases e:ì p.1 k with
  |true=>exact .inr ⟨_,_,rfl,rfl,a⟩
  |false=>exact ih t
theorem PsAt.isSome(h:PsAt K L x l ps):(br l k).isSome=(aK ps k).isSome:=by
 rcases h.val (k:=k) with ⟨h1,h2⟩|⟨v,d,h1,h2,_⟩<;>rw[h1,h2]<;>rfl
theorem PsAt.imp(h:PsAt K L x l ps)(f:∀v e,Hv K L x v e->Hv K L' y v e):PsAt K L' y l ps:=⟨h.ks,h.vs.imp f⟩
theorem PsAt.rep(h:PsAt K L x l ps)(a:Hv K L x v d):PsAt K L x (l.map λe=>if ì e.1 k then (e.1,v) else e) (ps.map λe=>if ì e.1 k then (e.1,d) else e):=by
 induction l generalizing ps with
 |nil=>rw[h.nilE];exact ⟨rfl,.nil⟩
 |cons p l ih=>
  obtain ⟨d',ps',rfl,a',t⟩:=h.cases;rw[þ,þ];dsimp only;split
  ·exact (ih t).cons a
  ·exact (ih t).cons a'
theorem PsAt.put(h:PsAt K L x l ps)(a:Hv K L x v d):PsAt K L x (cv l k v) (ay ps k d):=by
 unfold cv ay;rw[h.isSome (k:=k)];split
 ·exact h.rep a
 ·exact ⟨by simp[h.ks],by rw[ň,ň];exact h.vs.append (.cons a .nil)⟩
end
noncomputable def dH(es:Es):Ps:=es.map λe=>(e.1,e.2.2)
noncomputable def cC(kvs:List (Key×V)):Ps:=kvs.map λe=>(kD e.1,e.2)
theorem qd8(hk:ŧ k=true):∀{es:Es},(∀e∈es,ŧ e.1=true)->cj es k=br (dH es) k
 |[],_=>rfl
 |e::es,h=>by
  have ih:=qd8 hk (es:=es) λe he=>h e (Ê _ he);have q:=ycm e.1 k (h e Ì) hk;unfold cj br dH at ih ⊢;rw[þ,Ŋ,Ŋ];dsimp only;by_cases z:e.1=k
  ·rw[decide_eq_true z,q.mpr z];rfl
  ·rw[decide_eq_false z,Bool.eq_false_iff.mpr λzz=>z (q.mp zz)];exact ih
theorem qdi(q:Key):∀kvs:List (Key×V),bi kvs q=br (cC kvs) (kD q)
 |[]=>rfl
 |e::kvs=>by
  have ih:=qdi q kvs;unfold bi br cC at ih ⊢;rw[þ,Ŋ,Ŋ];dsimp only;rw[eqv_K];by_cases z:e.1=q
  ·rw[decide_eq_true z];rfl
  ·rw[decide_eq_false z];exact ih
theorem yg1(q:Key)(v:V)(kvs:List (Key×V)):cC (aL kvs q v)=cv (cC kvs) (kD q) v:=by
 unfold aL cv;rw[qd9,<-qdi];split
 ·unfold cC;rw[ŷ,ŷ];refine aE λe _=>?_;show _=if ì (kD e.1) (kD q) then _ else _
  rw[eqv_K];by_cases z:e.1=q<;>simp[z]
 ·simp[cC]
noncomputable def bV(es:Es)(k:Â)(b:Addr)(v:V):Es:=if (cj es k).isSome then es.map λe=>if e.1=k then (e.1,e.2.1,v) else e else es++[(k,b,v)]
theorem putE_P(hk:ŧ k=true){es:Es}(h:∀e∈es,ŧ e.1=true):dH (bV es k b v)=cv (dH es) k v:=by
 unfold bV cv;rw[<-qd8 hk h];split
 ·unfold dH;rw[ŷ,ŷ];refine aE λe he=>?_;have q:=ycm e.1 k (h e he) hk;show (_:Â×V)=if ì e.1 k then _ else _
  by_cases z:e.1=k
  ·rw[q.mpr z];simp[z]
  ·rw[Bool.eq_false_iff.mpr λzz=>z (q.mp zz)];simp[z]
 ·simp[dH]
section
variable {X:Cx}{pins:List (Addr×Obj)}{σ:L2.St}{H:Hp}{s:Ç}{a b:Addr}{v:V}{u r:Æ}{A:Ā}{E:Æ->Ç->Prop}{es:Es}{k:Â}
theorem qb3(I:Inv X pins σ H s)(x:TKey X.kc H k b):(ybi X.prog X.w).is s.heap k b:=⟨x.key,x.dp,x.at_.reads I rfl⟩
theorem qct(I:Inv X pins σ H s)(e:H a=some (DT_ X.prog X.w a es))(all:∀x∈es,TKey X.kc H x.1 x.2.1):es.length<=Õ/\(a == Ħ)=false/\∃xs,KDt es xs/\s.heap.DictOfH (ybi X.prog X.w) a xs:=by
 obtain ⟨⟨z,y,xs,r,o,ds,ep,h1,h2,h3,h4,h5⟩,ex⟩:=(show bh X.prog X.w H s.heap a (DT_ X.prog X.w a es) from I.hok a _ e);refine ⟨z,y,xs,r,o,ds,ep,h1,h2,h3,h4,?_,h5⟩;clear h4 h5 z e ex;induction r with
 |nil=>intro x hx;cases hx
 |@cons p q ps qs hq t ih=>
  intro x hx;rcases ñ.mp hx with e|hx
  ·subst e;have:=qb3 I (all p (by simp));rw[hq.1,hq.2.1]at this;exact this
  ·exact ih (λx hx=>all x (by simp[hx])) x hx
theorem dx_in(hu:A.units+64<Ž)(I:Inv X pins σ H s)(e:H a=some (DT_ X.prog X.w a es))(all:∀x∈es,TKey X.kc H x.1 x.2.1)(x:TKey X.kc H k b)(h:∀s',Inv X pins σ H s'->Q (.bool (cj es k).isSome) s') :
  Ë (model X.prog X.w) A (ĕ .In (.ref b) (.ref a)) Q E s:=by
 obtain ⟨z,hd,xs,rel,dd⟩:=qct I e all;refine wpAny_in_heap (qcn hu) (qb3 I x) hd dd ?_;have q:=(rel.val k).isSome_eq;rw[ő]at q;rw[<-q];exact h _ (I.tok _)
theorem dx_notIn(hu:A.units+64<Ž)(I:Inv X pins σ H s)(e:H a=some (DT_ X.prog X.w a es))(all:∀x∈es,TKey X.kc H x.1 x.2.1)(x:TKey X.kc H k b)(h:∀s',Inv X pins σ H s'->Q (.bool (!(cj es k).isSome)) s') :
  Ë (model X.prog X.w) A (ĕ .NotIn (.ref b) (.ref a)) Q E s:=by
 obtain ⟨z,hd,xs,rel,dd⟩:=qct I e all;refine wpAny_notIn_heap (qcn hu) (qb3 I x) hd dd ?_;have q:=(rel.val k).isSome_eq;rw[ő]at q;rw[<-q];exact h _ (I.tok _)
theorem dx_get(hu:A.units+64<Ž)(I:Inv X pins σ H s)(e:H a=some (DT_ X.prog X.w a es))(all:∀x∈es,TKey X.kc H x.1 x.2.1)(x:TKey X.kc H k b)(l:cj es k=some v)(h:∀w' s',Inv X pins σ H s'->RelV v w'->Q w' s') :
  Ë (model X.prog X.w) A (getItem (.ref a) (.ref b)) Q E s:=by
 obtain ⟨z,hd,xs,rel,dd⟩:=qct I e all;obtain ⟨w',hw,rw'⟩:=RelO.some_of (v:=v) (o:=(atKey xs k).map (·.2)) (by rw[<-l];exact rel.val k);obtain ⟨p,hp,hp2⟩:=Á.mp hw;refine wpAny_getItem_heap (qcn hu) (qb3 I x) dd hp ?_;rw[hp2];exact h _ _ (I.tok _) rw'
theorem KDt.rep(rel:KDt es xs)(rv:RelV v r):KDt (es.map λe=>if e.1=k then (e.1,e.2.1,v) else e) (xs.map (putAt k r)):=by
 induction rel with
 |nil=>exact .nil
 |@cons p q ps qs h t ih=>
  rw[þ,þ];refine .cons ?_ ih;unfold putAt;rw[<-h.1];split
  ·exact ⟨rfl,h.2.1,rv⟩
  ·exact h
theorem KDt.put(rel:KDt es xs)(rv:RelV v r):KDt (bV es k b v) (storedH xs k b r):=by
 have q:=(rel.val k).isSome_eq;rw[ő]at q;unfold bV storedH;rw[q];split
 ·exact KDt.rep rel rv
 ·exact Paired.snoc rel ⟨rfl,rfl,rv⟩
theorem putE_len:(bV es k b v).length<=es.length+1:=by
 unfold bV;split<;>simp
theorem dx_put(hu:A.units+64<Ž)(I:Inv X pins σ H s)(e:H a=some (DT_ X.prog X.w a es))(all:∀x∈es,TKey X.kc H x.1 x.2.1)(x:TKey X.kc H k b)(hl:es.length<Õ)(rv:RelV v r)(h:∀s',Inv X pins σ (upd H a (DT_ X.prog X.w a (bV es k b v))) s'->Q () s') :
  Ë (model X.prog X.w) A (setItem (.ref a) (.ref b) r) Q E s:=by
 obtain ⟨z,hd,xs,rel,dd⟩:=qct I e all;have hz:xs.length<=Õ:=by rw[<-Τ rel];exact z
 refine wpAny_setItem_heap (hsz:=hz) (qcn hu) (qb3 I x) dd λh' dd' hs=>h _ ?_;refine qcq I (by rw[e];exact į) hs (let ⟨o,_,_,ho,_⟩:=dd';⟨o,ho⟩) (qia (by have:=putE_len (es:=es) (k:=k) (b:=b) (v:=v);omega) hd (KDt.put rel rv) dd')
end
noncomputable def dB(d:DV)(S:OS):Option (Nat×Bool×List (Â×DV)):=match d with
 |.r i=>match S[i]? with
  |some (.dk ps)=>some (i,false,ps)
  |some (.dt ps)=>some (i,true,ps)
  |_=>none
 |_=>none
noncomputable def dC(t:Bool)(k:Â):Bool:=if t=true then bE k else (fA k).isSome
noncomputable abbrev KZ:=Â->Addr->Prop
inductive DicH(K:Kc)(Z:KZ)(H:Hp)(a:Addr):Bool->Ps->Prop
 |k {kvs:List (Key×V)}:H a=some (.dK kvs)->DicH K Z H a false (cC kvs)
 |t {es:Es}:H a=some (DT_ K.P K.w a es)->(∀e∈es,TKey K H e.1 e.2.1/\Z e.1 e.2.1)->DicH K Z H a true (dH es)
inductive KeyH(K:Kc)(Z:KZ)(H:Hp):Bool->V->Â->Prop
 |k (q:Key):KeyH K Z H false (kV q) (kD q)
 |t {b:Addr}{k:Â}:TKey K H k b->Z k b->KeyH K Z H true (.ref b) k
noncomputable def qes:DV->Option Â
 |.d k=>some k
 |.r _=>none
section
variable {K:Kc}{L:Addr->Prop}{x:Wd}{v:V}{d:DV}{i:Nat}{t:Bool}{ps:List (Â×DV)}{k:Â}
theorem TKey.same(s:Same H H')(h:TKey K H k b):TKey K H' k b:=⟨h.at_.same s,h.key,h.dp⟩
theorem qbz(ok:Ok K L x)(h:Hv K L x v d)(e:dB d x.S=some (i,t,ps)):∃a l,v=.ref a/\x.φ[i]?=some a/\DicH K (TKey K (x.hp L)) x.H a t l/\PsAt K L x l ps/\x.S[i]?=some (if t=true then .dt ps else .dk ps):=by
 unfold dB at e;split at e
 ·rename_i j
  obtain ⟨a,h1,rfl⟩:=h;split at e
  ·rename_i ps' hs
   cases e;obtain ⟨kvs,g1,g2,g3⟩:=ok.obj _ _ a hs h1;exact ⟨a,cC kvs,rfl,h1,.k g1,⟨by rw[<-g2];simp[cC],by rw[cC,ŷ];exact g3⟩,hs⟩
  ·rename_i ps' hs
   cases e;obtain ⟨es,g1,g2,g3,g4⟩:=ok.obj _ _ a hs h1;exact ⟨a,dH es,rfl,h1,.t g1 λe he=>⟨(g3 e he).same bJ,g3 e he⟩,⟨by rw[<-g2];simp[dH],by rw[dH,ŷ];exact g4⟩,hs⟩
  ·cases e
 ·cases e
theorem qcv{e:DV}(h:Hv K L x v e)(f:qes e=some k)(hk:dC t k=true):KeyH K (TKey K (x.hp L)) x.H t v k:=by
 cases e with
 |r i=>cases f
 |d k'=>
  cases f;have a:Dt K (x.hp L) v k:=h;unfold dC at hk;split at hk
  ·rename_i z
   subst z;unfold bE at hk;split at hk
   ·simp only[Å,decide_eq_true_eq]at hk;cases a with
    |tup g1 g2=>exact .t (TKey.same bJ ⟨.tup g1 g2,hk.1,hk.2⟩) ⟨.tup g1 g2,hk.1,hk.2⟩
   ·cases hk
  ·rename_i z
   rw[Bool.not_eq_true]at z;subst z;obtain ⟨q,hq⟩:=Ż.mp hk;cases ygg hq;cases kD_at a;exact .k q
theorem qi4(h:DicH K (TKey K (x.hp L)) x.H a t l)(hp:PsAt K L x l ps):Ho K L x a (if t=true then .dt ps else .dk ps):=by
 cases h with
 |@k kvs e=>exact ⟨kvs,e,by rw[<-hp.ks];simp[cC],by have:=hp.vs;rw[cC,ŷ]at this;exact this⟩
 |@t es e all=>exact ⟨es,e,by rw[<-hp.ks];simp[dH],λe he=>(all e he).2,by have:=hp.vs;rw[dH,ŷ]at this;exact this⟩
end
section
variable {X:Cx}{pins:List (Addr×Obj)}{σ:L2.St}{H:Hp}{s:Ç}{a:Addr}{v:V}{u:Æ}{A:Ā}{E:Æ->Ç->Prop}{t:Bool}{l:Ps}{k:Â}{Z:KZ}
theorem dh_ask(hu:A.units+64<Ž)(I:Inv X pins σ H s)(g:DicH X.kc Z H a t l)(y:KeyH X.kc Z H t v k)(ry:RelV v u)(h:∀s',Inv X pins σ H s'->Q (.bool (xor neg (br l k).isSome)) s') :
  Ë (model X.prog X.w) A (ĕ (if neg=true then .NotIn else .In) u (.ref a)) Q E s:=by
 cases g with
 |@k kvs e=>
  cases y with
  |k q=>
   rw[<-qdi]at h;cases neg with
   |false=>exact d_in (by omega) I (.k e) ry λs' I'=>by have:=h s' I';rwa [Bool.false_xor]at this
   |true=>exact d_notIn (by omega) I (.k e) ry λs' I'=>by have:=h s' I';rwa [Bool.true_xor]at this
 |@t es e all=>
  cases y with
  |t x hz=>
   cases (show u=ã _ from ry);rw[<-qd8 x.key λe he=>(all e he).1.key]at h;cases neg with
   |false=>exact dx_in hu I e (λe he=>(all e he).1) x λs' I'=>by have:=h s' I';rwa [Bool.false_xor]at this
   |true=>exact dx_notIn hu I e (λe he=>(all e he).1) x λs' I'=>by have:=h s' I';rwa [Bool.true_xor]at this
theorem dh_get(hu:A.units+64<Ž)(I:Inv X pins σ H s)(g:DicH X.kc Z H a t l)(y:KeyH X.kc Z H t v k)(ry:RelV v u)(e0:br l k=some w)(h:∀w' s',Inv X pins σ H s'->RelV w w'->Q w' s') :
  Ë (model X.prog X.w) A (getItem (.ref a) u) Q E s:=by
 cases g with
 |@k kvs e=>
  cases y with
  |k q=>
   rw[<-qdi]at e0;exact yj4 (by omega) I (by rw[<-e0];exact .k e) ry h
 |@t es e all=>
  cases y with
  |t x hz=>
   cases (show u=ã _ from ry);rw[<-qd8 x.key λe he=>(all e he).1.key]at e0;exact dx_get hu I e (λe he=>(all e he).1) x e0 h
theorem dh_ty(I:Inv X pins σ H s)(g:DicH X.kc Z H a t l):s.TypeIs (.ref a) "dict"/\∀b,ã a=.ref b->∃ob,s.heap.get? b=some ob/\ob.dict=none:=by
 cases g with
 |@k kvs e=>exact ⟨qgc I (.k (k:=.inl 0) e),qgb I (.k (k:=.inl 0) e)⟩
 |@t es e all=>
  obtain ⟨_,_,xs,_,dd⟩:=qct I e (λe he=>(all e he).1);refine ⟨dd.typeIs,λb z=>?_⟩;cases z;obtain ⟨o,_,_,h1,h2,_⟩:=dd;exact ⟨o,h1,h2.2.1⟩
noncomputable def PutH(K:Kc)(Z:KZ)(a:Addr)(t:Bool)(l:Ps)(o:HO):Prop:=∀H' Z',H' a=some o->(∀k b,Z k b->TKey K H' k b/\Z' k b)->DicH K Z' H' a t l
theorem putE_z{Z Z':KZ}{H':Hp}{b:Addr}{w:V}{es:Es}(all:∀e∈es,Z e.1 e.2.1)(hz:Z k b)(h:∀k b,Z k b->TKey X.kc H' k b/\Z' k b):∀e∈bV es k b w,TKey X.kc H' e.1 e.2.1/\Z' e.1 e.2.1:=by
 unfold bV;split
 ·intro e he;obtain ⟨e',h',rfl⟩:=Ō.mp he;split
  ·exact h _ _ (all e' h')
  ·exact h _ _ (all e' h')
 ·intro e he;rcases ŀ.mp he with he|he
  ·exact h _ _ (all e he)
  ·rw[ê.mp he];exact h _ _ hz
theorem dh_put(hu:A.units+64<Ž)(I:Inv X pins σ H s)(g:DicH X.kc Z H a t l)(y:KeyH X.kc Z H t v k)(ry:RelV v u)(rw':RelV w r)(hl:l.length<Õ)
  (h:∀o s',Inv X pins σ (upd H a o) s'->PutH X.kc Z a t (cv l k w) o->Q () s'):Ë (model X.prog X.w) A (setItem (.ref a) u r) Q E s:=by
 cases g with
 |@k kvs e=>
  cases y with
  |k q=>
   refine yjl (by omega) I (.k e (by simpa [cC] using hl)) ry rw' λs' I'=>h _ s' I' λH' Z' e' _=>?_;rw[<-yg1];exact .k e'
 |@t es e all=>
  cases y with
  |t x hz=>
   cases (show u=ã _ from ry);refine dx_put hu I e (λe he=>(all e he).1) x (by simpa [dH] using hl) rw' λs' I'=>h _ s' I' λH' Z' e' hd=>?_;rw[<-putE_P x.key λe he=>(all e he).1.key];exact .t e' (putE_z (λe he=>(all e he).2) hz hd)
end
end Dp
namespace Dp
open PySem PySem.Spec L2 PyProof.Rows Mx
section
variable {X:Cx}{e a b o i:Expr}{es:List Expr}{f g h:FE}{fa:FA}{pos p apos:Pos}{tg:Expr}
noncomputable def inDG(neg:Bool):G2:=λa b S=>(dB b S).bind λo=>(qes a).bind λk=>if dC o.2.1 k=true then some (.d (.bool (xor neg (aK o.2.2 k).isSome)),S) else none
noncomputable def rInH(K:Kc)(neg:Bool):R2:=λx y H Q=>∃a t l k Z,y=.ref a/\DicH K Z H a t l/\KeyH K Z H t x k/\Q (.bl (xor neg (br l k).isSome)) H
theorem op_inH(hr:Room n X.A):OpR X (ĕ (if neg=true then .NotIn else .In)) (rInH X.kc neg):=by
 intro pins s σ H x y v u Q I rx ry ⟨a,t,l,k,Z,e,g,kh,q⟩;subst e;cases ry;exact dh_ask hr.units I g kh rx λs' I'=>⟨.bl _,H,I',rfl,q⟩
theorem qkc(hr:Room n X.A):Op2 X (ĕ (if neg=true then .NotIn else .In)) (inDG neg):=⟨_,op_inH hr,λL x u v du dv r S' Q k hu hv e q=>by
 obtain ⟨⟨j,t,ps⟩,e1,e⟩:=bnd e;obtain ⟨kd,e2,e⟩:=bnd e;split at e
 ·rename_i z
  cases e;obtain ⟨a,l,rfl,_,hd,hp,_⟩:=qbz k hv e1;refine ⟨a,t,l,kd,_,rfl,hd,qcv hu e2 z,?_⟩;rw[hp.isSome];exact q _ x Ex.refl rfl k (.bl _)
 ·cases e⟩
theorem subT_of{prog:Ü}{w:ï}{A:Ā}{E:Æ->Ç->Prop}{s:Ç}{value slice:Expr}{o i:Æ}{T id:String}{Q:Æ->Ç->Prop}
  (hl:typeLookup (.type T) "__getitem__"=pure (some (.builtin id))) (hs:subscripted slice false o i=operate [o,i] (getItem o i)) (hT:s.TypeIs o T) (h₂:Ë (model prog w) A (getItem o i) Q E s):Ë (model prog w) A (subscriptTail value slice o i) Q E s:=by
 unfold subscriptTail;refine À ?_;rw[getitemInPython_of_ne hT.not_modules];refine À (Ů hT hl ?_);have fin:Ë (model prog w) A (subscripted slice false o i) (λr s₃=>Ë (model prog w) A (letTemporaryGo value o r >>= λ_=>pure r) Q E s₃) E s:=by
  rw[hs];exact wpAny_operating (Ň h₂ (λr s₃ h₃=>À (wpAny_letTemporaryGo (Ã h₃))) λ_ _ x=>x)
 first
  |exact Ã (À fin)
  |exact À (Ã (À fin))
  |exact À fin
noncomputable def ixDG:G2:=λa b S=>(dB a S).bind λo=>(qes b).bind λk=>if dC o.2.1 k=true then (aK o.2.2 k).map λd=>(d,S) else none
noncomputable def rIxH(K:Kc):R2:=λx y H Q=>∃a t l k w Z,x=.ref a/\DicH K Z H a t l/\KeyH K Z H t y k/\br l k=some w/\Q w H
theorem ix_H{n:Nat}(hr:Room n X.A):IxR X (rIxH X.kc):=by
 intro value slice pins s σ H x y v u Q I rx ry ⟨a,t,l,k,w,Z,e,g,kh,hv,q⟩ hs;subst e;cases rx;exact subT_of PySem.F.slot_dict_getitem.lookup hs (dh_ty I g).1 (dh_get hr.units I g kh ry hv λw' s' I' r'=>⟨w,H,I',r',q⟩)
theorem ix2_D(hr:Room n X.A):Ix2 X ixDG:=⟨_,ix_H hr,λL x u v du dv r S' Q k hu hv e q=>by
 obtain ⟨⟨j,t,ps⟩,e1,e⟩:=bnd e;obtain ⟨kd,e2,e⟩:=bnd e;split at e
 ·rename_i z
  obtain ⟨d,e3,e⟩:=Á.mp e;cases e;obtain ⟨a,l,rfl,_,hd,hp,_⟩:=qbz k hu e1;rcases hp.val (k:=kd) with ⟨_,h2⟩|⟨w,d',h1,h2,h3⟩
  ·dsimp only at e3;rw[h2]at e3;cases e3
  ·dsimp only at e3;rw[h2]at e3;cases e3;exact ⟨a,t,l,kd,w,_,rfl,hd,qcv hv e2 z,h1,q w x Ex.refl rfl k h3⟩
 ·cases e⟩
noncomputable def á:G2:=dZ ixG (dZ ye1 ixDG)
theorem ix2_all(hr:Room n X.A):Ix2 X á:=ix2_or ix2_seq (ix2_or ix2_str (ix2_D hr))
noncomputable def ż:G2:=eqG false
noncomputable def d7:G2:=eqG true
noncomputable def ltB:G2:=bG λi j=>decide (i<j)
noncomputable def leB:G2:=bG λi j=>decide (i<=j)
noncomputable def gtB:G2:=bG λi j=>decide (j<i)
noncomputable def geB:G2:=bG λi j=>decide (j<=i)
noncomputable def eO:G2:=dZ (inG false) (inDG false)
noncomputable def niB:G2:=dZ (inG true) (inDG true)
noncomputable def cmpG:CmpOp->Option G2
 |.Eq=>some ż
 |.NotEq=>some d7
 |.Lt=>some ltB
 |.LtE=>some leB
 |.Gt=>some gtB
 |.GtE=>some geB
 |.In=>some eO
 |.NotIn=>some niB
 |_=>none
theorem qjb{k:Nat}{op:CmpOp}{g:G2}(hr:Room k X.A)(h:cmpG op=some g):Op2 X (ĕ op) g:=by
 cases op<;>first|(cases h;done)|cases h
 ·exact op2_eq hr
 ·exact op2_ne hr
 ·exact op2_b op_lt
 ·exact op2_b op_le
 ·exact op2_b op_gt
 ·exact op2_b op_ge
 ·exact yd2 (op2_in hr) (qkc (neg:=false) hr)
 ·exact yd2 (qis hr) (qkc (neg:=true) hr)
noncomputable def cw(t:Bool)(ps:List (Â×DV)):OD:=if t=true then .dt ps else .dk ps
noncomputable def setG(i:Nat)(o:OD)(k v:DV)(S:OS):Option OS:=match o with
 |.lst es=>(qek k).bind λn=>(eL es.length n).map λj=>S.set i (.lst (es.set j v))
 |.dk ps=>(qes k).bind λkd=>if dC false kd=true/\ps.length<most then some (S.set i (.dk (ay ps kd v))) else none
 |.dt ps=>(qes k).bind λkd=>if dC true kd=true/\ps.length<most then some (S.set i (.dt (ay ps kd v))) else none
 |_=>none
noncomputable def yj0(d:DV)(S:OS):Option (Nat×OD):=match d with
 |.r i=>(S[i]?).map λo=>(i,o)
 |_=>none
theorem refOf_is{d:DV}{S:OS}{j:Nat}{o:OD}(h:yj0 d S=some (j,o)):d=.r j/\S[j]?=some o:=by
 unfold yj0 at h;split at h
 ·obtain ⟨o',hs,e⟩:=Á.mp h;cases e;exact ⟨rfl,hs⟩
 ·cases h
noncomputable def qdq(f g h:FE):FS:=λρ S=>(h ρ S).bind λv=>(f ρ v.2).bind λp=>(g ρ p.2).bind λq=>(yj0 p.1 q.2).bind λo=>(setG o.1 o.2 q.1 v.1 q.2).map λS'=>(.nx ρ,S')
noncomputable def rSetX(K:Kc):TSet:=λo i v H Q=>(∃p xs k j,o=.ref p/\i=.int k/\H p=some (.lst xs)/\eL xs.length k=some j/\Q (upd H p (.lst (xs.set j v))))\/
 ∃a t l k Z,o=.ref a/\DicH K Z H a t l/\KeyH K Z H t i k/\l.length<Õ/\∀u,PutH K Z a t (cv l k v) u->Q (upd H a u)
theorem set_X(hr:Room n X.A):PSet X (rSetX X.kc):=by
 intro pins s σ H o i v ov iv u Q I ro ri rv h;rcases h with h|⟨a,t,l,k,Z,e,g,kh,hl,q⟩
 ·exact set_list pins s σ H o i v ov iv u Q I ro ri rv h
 ·subst e;cases ro;exact dh_put hr.units I g kh ri rv hl λo' s' I' hq=>⟨_,I',q o' hq⟩
theorem yif{K:Kc}{L:Addr->Prop}{x:Wd}{j:Nat}{a:Addr}{t:Bool}{l:Ps}{ps:List (Â×DV)}{k:Â}{w:V}{dw:DV}{u:HO}(ok:Ok K L x)(h1:x.φ[j]?=some a)(h2:x.S[j]?=some (cw t ps))(hp:PsAt K L x l ps)(hw:Hv K L x w dw)
  (hu:PutH K (TKey K (x.hp L)) a t (cv l k w) u):Ex x (x.put j a (cw t (ay ps k dw)) u)/\Ok K L (x.put j a (cw t (ay ps k dw)) u):=by
 have nd:∀q,(cw t q).isDead=false:=λq=>by unfold cw;cases t<;>rfl
 have ex:Ex x (x.put j a (cw t (ay ps k dw)) u):=Ex.put ok h1 h2 (nd _);refine ⟨ex,ok.put h1 h2 (nd _) (qi4 (hu _ _ bB λk b z=>?_) ((hp.put hw).imp λv e q=>q.ex ex))⟩;have z2:=z.same ex.same;exact ⟨z2.same bJ,z2⟩
theorem PsAt.len{K:Kc}{L:Addr->Prop}{x:Wd}{l:Ps}{ps:List (Â×DV)}(h:PsAt K L x l ps):l.length=ps.length:=by
 have:=congrArg List.length h.ks
 simpa using this
theorem ds_sub'{n:Nat}{p':Pos}(hr:Room n X.A)(hn:eW e=true)(h1:DE X o f)(h2:DE X i g)(h3:DE X e h)(ha:∀v,assign (.Subscript o i p') X.env v=(do
   let ov <-holding [v] (eval o X.env);let iv <-holding [v,ov] (eval i X.env)
   standAt p'
   holding [v,ov,iv] (setItem ov iv v)
   release [v,ov,iv] [])):DS X (.Assign [.Subscript o i p'] e pos) (qdq f g h):=by
 obtain ⟨t,p1,d1⟩:=h1;obtain ⟨u,p2,d2⟩:=h2;obtain ⟨w,p3,d3⟩:=h3;refine ⟨_,ps_asg p3 (pg_sub p1 p2 (set_X hr) ha) (by unfold swapsWithSole;exact qj6 hn) rfl rfl,λL ρ σ x r S' D hh k rl q=>?_⟩;obtain ⟨⟨r0,S0⟩,e0,hh⟩:=bnd hh;obtain ⟨⟨r1,S1⟩,e1,hh⟩:=bnd hh;obtain ⟨⟨r2,S2⟩,e2,hh⟩:=bnd hh;obtain ⟨⟨j,od⟩,e3,hh⟩:=bnd hh;obtain ⟨S3,e4,hh⟩:=Á.mp hh;cases hh;refine d3 L ρ σ x r0 S0 _ e0 k rl λv0 y0 ex0 ey0 ky0 hv0=>?_;subst ey0;refine d1 L ρ σ y0 r1 S1 _ e1 ky0 (rl.ex ex0) λv y ex ey ky hv=>?_;subst ey;refine d2 L ρ σ y r2 S2 _ e2 ky (rl.ex (ex0.trans ex)) λv2 y2 ex2 ey2 ky2 hv2=>?_;subst ey2;have hv1:=hv.ex ex2;have hv0':=hv0.ex (ex.trans ex2);have e02:=(ex0.trans ex).trans ex2;obtain ⟨rfl,hs⟩:=refOf_is e3;dsimp only at e4;have dic:∀t ps,od=cw t ps->(∃kd,qes r2=some kd/\dC t kd=true/\ps.length<most/\S'=y2.S.set j (cw t (ay ps kd r0)))->rSetX X.kc v v2 v0 y2.H λH2=>D.nx σ H2:=λt ps eo ⟨kd,k1,k2,k3,k4⟩=>by
  subst eo k4;have e5:dB (.r j) y2.S=some (j,t,ps):=by
   unfold dB;dsimp only;rw[hs];cases t<;>rfl
  obtain ⟨a,l,rfl,g1,g2,g3,g4⟩:=qbz ky2 hv1 e5;refine .inr ⟨a,t,l,kd,_,rfl,g2,qcv hv2 k1 k2,by rw[g3.len];exact qei (γ k3),λu hu=>?_⟩;obtain ⟨h1,h2⟩:=yif ky2 g1 hs g3 hv0' hu;exact q σ _ (e02.trans h1) rfl h2 (rl.ex (e02.trans h1))
 unfold setG at e4;split at e4
 ·rename_i es
  obtain ⟨n',e5,e4⟩:=bnd e4;obtain ⟨m,e6,e4⟩:=Á.mp e4;cases e4;obtain ⟨p,us,rfl,g1,g2,g3,g4⟩:=ye7 (es:=es) (j:=j) ky2 hv1 (by unfold dq;dsimp only;rw[hs]);cases qb9 hv2 e5;obtain ⟨h1,h2⟩:=yd8 ky2 g1 g2 (g4.set (i:=m) hv0');exact .inl ⟨p,us,n',m,rfl,rfl,g3,by rw[g4.length];exact e6,q σ (y2.put j p _ _) (e02.trans h1) rfl h2 (rl.ex (e02.trans h1))⟩
 ·rename_i ps
  obtain ⟨kd,e5,e4⟩:=bnd e4;split at e4
  ·rename_i z
   cases e4;exact dic false ps rfl ⟨kd,e5,z.1,z.2,rfl⟩
  ·cases e4
 ·rename_i ps
  obtain ⟨kd,e5,e4⟩:=bnd e4;split at e4
  ·rename_i z
   cases e4;exact dic true ps rfl ⟨kd,e5,z.1,z.2,rfl⟩
  ·cases e4
 ·cases e4
end
end Dp
namespace Dp
open PySem PySem.Spec L2 PyProof.Rows Mx PySem.W
noncomputable def eG:Â->Â->Bool
 |.int a,.int b=>decide (a<b)
 |.str a,.str b=>decide (a.cps.toList<b.cps.toList)
 |_,_=>false
noncomputable def cn:Â->Nat
 |.int _=>1
 |.str _=>2
 |_=>0
noncomputable def cY:List Â->List Â->Bool
 |x::xs,y::ys=>if ì x y=true then cY xs ys else eG x y
 |_,_=>false
noncomputable def shp:Â->List Nat
 |.int _=>[1]
 |.str _=>[2]
 |.tuple xs=>3::xs.map cn
 |_=>[0]
noncomputable def ci:Â->Â->Bool
 |.tuple xs,.tuple ys=>cY xs ys
 |a,b=>eG a b
noncomputable def fw:List Â->Bool
 |d::e::r=>!(shp d).contains 0 && !(decide (shp d=[3]))&&(e::r).all λe=>decide (shp e=shp d)
 |_=>true
noncomputable def eN{α:Type}(lt:α->α->Bool)(d:α):List α->List α
 |[]=>[d]
 |e::r=>if lt e d=true then e::eN lt d r else d::e::r
noncomputable def b7{α:Type}(lt:α->α->Bool):List α->List α
 |[]=>[]
 |d::r=>eN lt d (b7 lt r)
structure Ord{α:Type}(lt:α->α->Bool)(P:α->Prop):Prop where
 irr:∀a,P a->lt a a=false
 tr:∀a b c,P a->P b->P c->lt a b=true->lt b c=true->lt a c=true
 tri:∀a b,P a->P b->lt a b=false->lt b a=false->a=b
section
variable {α:Type}{lt:α->α->Bool}{P:α->Prop}
theorem qdc(d:α):∀l:List α,(eN lt d l).Perm (d::l)
 |[]=>.refl _
 |e::r=>by
  unfold eN;split
  ·exact ((qdc d r).cons e).trans (.swap d e r)
  ·exact .refl _
theorem ybu:∀l:List α,(b7 lt l).Perm l
 |[]=>.refl _
 |d::r=>(qdc d _).trans ((ybu r).cons d)
noncomputable def Up(lt:α->α->Bool)(l:List α):Prop:=l.Pairwise λa b=>lt b a=false
theorem yie(o:Ord lt P){d:α}(hd:P d):∀{l:List α},(∀x∈l,P x)->Up lt l->Up lt (eN lt d l)
 |[],_,_=>List.pairwise_singleton ..
 |e::r,h,u=>by
  have he:=h e Ì;have hr:∀x∈r,P x:=λx hx=>h x (Ê _ hx);obtain ⟨u1,u2⟩:=pairwise_cons.mp u;unfold eN;split
  ·rename_i z
   refine pairwise_cons.mpr ⟨λx hx=>?_,yie o hd hr u2⟩;rcases ñ.mp ((qdc d r).mem_iff.mp hx) with rfl|hx
   ·cases q:lt x e with
    |false=>rfl
    |true=>exact absurd (o.tr _ _ _ hd he hd q z) (by rw[o.irr _ hd];simp)
   ·exact u1 x hx
  ·rename_i z
   have z:lt e d=false:=by simpa using z
   refine pairwise_cons.mpr ⟨λx hx=>?_,u⟩;rcases ñ.mp hx with rfl|hx
   ·exact z
   ·have hx':=hr x hx;cases q:lt x d with
    |false=>rfl
    |true=>
     have w:=u1 x hx;cases q2:lt e x with
     |true=>rw[o.tr _ _ _ he hx' hd q2 q]at z;cases z
     |false=>rw[o.tri _ _ hx' he w q2]at q;rw[q]at z;cases z
theorem qer(o:Ord lt P):∀{l:List α},(∀x∈l,P x)->Up lt (b7 lt l)
 |[],_=>.nil
 |d::r,h=>yie o (h d Ì) (λx hx=>h x (Ê _ ((ybu r).mem_iff.mp hx))) (qer o λx hx=>h x (Ê _ hx))
theorem qe4(o:Ord lt P):∀{l m:List α},(∀x∈l,P x)->l.Perm m->Up lt l->Up lt m->l=m
 |[],m,_,p,_,_=>(List.nil_perm.mp p).symm
 |a::l,[],_,p,_,_=>by have:=p.length_eq;simp at this
 |a::l,b::m,h,p,u,v=>by
  have hm:∀x∈b::m,P x:=λx hx=>h x (p.mem_iff.mpr hx);obtain ⟨u1,u2⟩:=pairwise_cons.mp u;obtain ⟨v1,v2⟩:=pairwise_cons.mp v;have e:a=b:=by
   by_cases z:a=b
   ·exact z
   ·have ha:a∈m:=(ñ.mp (p.mem_iff.mp Ì)).resolve_left z;have hb:b∈l:=(ñ.mp (p.mem_iff.mpr Ì)).resolve_left λq=>z q.symm;exact o.tri _ _ (h a Ì) (hm b Ì) (v1 a ha) (u1 b hb)
  subst e;rw[qe4 o (λx hx=>h x (Ê _ hx)) (List.Perm.cons_inv p) u2 v2]
theorem qb2(o:Ord lt P){l m:List α}(h:∀x∈l,P x)(p:m.Perm l)(u:Up lt m):m=b7 lt l:=
 qe4 o (λx hx=>h x (p.mem_iff.mp hx)) (p.trans (ybu l).symm) u (qer o h)
noncomputable def rkN(lt:α->α->Bool)(l:List α)(a:α):Int:=(l.countP λe=>lt e a:Nat)
theorem qea:∀{l:List α},(∀x∈l,p x=true->q x=true)->l.countP p<=l.countP q
 |[],_=>Ò _
 |x::l,h=>by
  have ih:=qea (l:=l) λy hy=>h y (Ê _ hy);have hx:=h x Ì;rw[countP_cons,countP_cons];cases e:p x with
  |false=>simp;omega
  |true=>rw[hx e];simp;omega
theorem qgm:∀{l:List α},(∀x∈l,p x=true->q x=true)->a∈l->p a=false->q a=true->l.countP p<l.countP q
 |[],_,h,_,_=>by cases h
 |x::l,h,hm,h1,h2=>by
  have hl:∀y∈l,p y=true->q y=true:=λy hy=>h y (Ê _ hy);have ih:=qea hl;rw[countP_cons,countP_cons];rcases ñ.mp hm with rfl|hm
  ·rw[h1,h2];simp;omega
  ·have:=qgm hl hm h1 h2;have hx:=h x Ì;cases e:p x with
   |false=>simp;omega
   |true=>rw[hx e];simp;omega
theorem rk_lt(o:Ord lt P){l:List α}(h:∀x∈l,P x){a b:α}(ha:a∈l)(hb:b∈l):lt a b=decide (rkN lt l a<rkN lt l b):=by
 have hA:=h a ha;have hB:=h b hb;cases e:lt a b with
 |true=>
  refine (decide_eq_true ?_).symm;have:=qgm (p:=λe=>lt e a) (q:=λe=>lt e b) (a:=a) (λx hx z=>o.tr _ _ _ (h x hx) hA hB z e) ha (o.irr _ hA) e;unfold rkN;omega
 |false=>
  refine (decide_eq_false ?_).symm;unfold rkN;cases e2:lt b a with
  |false=>rw[o.tri _ _ hA hB e e2];omega
  |true=>
   have:=qea (l:=l) (p:=λe=>lt e b) (q:=λe=>lt e a) (λx hx z=>o.tr _ _ _ (h x hx) hB hA z e2);omega
end
theorem nat_tri:∀{a b:List Nat},¬ a<b->¬ b<a->a=b:=λh1 h2=>List.le_antisymm (List.not_lt.mp h2) (List.not_lt.mp h1)
theorem qf8(a:Â):eG a a=false:=by
 cases a<;>simp[eG,List.lt_irrefl]
theorem str_eq{a b:Str}(h:a.cps.toList=b.cps.toList):a=b:=by
 cases a;cases b;simp only[Str.mk.injEq];exact Array.toList_inj.mp h
theorem yit(h1:eG a b=true)(h2:eG b c=true):eG a c=true:=by
 cases a<;>cases b<;>first|(cases h1;done)|skip
 ·cases c<;>first|(cases h2;done)|skip
  simp only[eG,decide_eq_true_eq]at *;omega
 ·cases c<;>first|(cases h2;done)|skip
  simp only[eG,decide_eq_true_eq]at *;exact List.lt_trans h1 h2
theorem qfz{a b:Â}(h0:cn a=cn b)(h00:cn a≠0)(h1:eG a b=false)(h2:eG b a=false):a=b:=by
 cases a<;>first|exact absurd rfl h00|skip
 ·cases b<;>first|(cases h0;done)|skip
  simp only[eG,decide_eq_false_iff_not]at *;congr 1;omega
 ·cases b<;>first|(cases h0;done)|skip
  simp only[eG,decide_eq_false_iff_not]at *;rw[str_eq (nat_tri h1 h2)]
theorem dD(h0:cn a=cn b)(h:cn a≠0):ì a b=true↔a=b:=by
 cases a<;>first|exact absurd rfl h|skip
 ·cases b<;>first|(cases h0;done)|skip
  simp[ì]
 ·cases b<;>first|(cases h0;done)|skip
  simp[ì]
noncomputable def tgs(s:List Nat)(xs:List Â):Prop:=xs.map cn=s
section
theorem qj5:∀{s:List Nat}{xs:List Â},tgs s xs->(∀n∈s,n≠0)->cY xs xs=false
 |_,[],_,_=>rfl
 |[],x::xs,h,_=>by cases h
 |n::s,x::xs,h,h0=>by
  obtain ⟨h1,h2⟩:=Ģ h;unfold cY;rw[if_pos ((dD rfl (by rw[h1];exact h0 n Ì)).mpr rfl)];exact qj5 h2 λm hm=>h0 m (Ê _ hm)
theorem qkb:∀{s:List Nat}{xs ys:List Â},tgs s xs->tgs s ys->(∀n∈s,n≠0)->cY xs ys=false->cY ys xs=false->xs=ys
 |_,[],[],_,_,_,_,_=>rfl
 |_,[],y::ys,h,h',_,_,_=>by cases h;cases h'
 |_,x::xs,[],h,h',_,_,_=>by cases h';cases h
 |[],x::xs,y::ys,h,_,_,_,_=>by cases h
 |n::s,x::xs,y::ys,h,h',h0,a,b=>by
  obtain ⟨h1,h2⟩:=Ģ h;obtain ⟨k1,k2⟩:=Ģ h';have hn:=h0 n Ì;have ht:=λm hm=>h0 m (Ê _ hm);unfold cY at a b;by_cases e:x=y
  ·subst e;have q:=(dD (a:=x) rfl (by rw[h1];exact hn)).mpr rfl;rw[if_pos q]at a b;rw[qkb h2 k2 ht a b]
  ·have q1:¬ ì x y=true:=λz=>e ((dD (h1.trans k1.symm) (by rw[h1];exact hn)).mp z);have q2:¬ ì y x=true:=λz=>e ((dD (k1.trans h1.symm) (by rw[k1];exact hn)).mp z).symm;rw[if_neg q1]at a;rw[if_neg q2]at b;exact absurd (qfz (h1.trans k1.symm) (by rw[h1];exact hn) a b) e
theorem ltL_tr:∀{s:List Nat}{xs ys zs:List Â},tgs s xs->tgs s ys->tgs s zs->(∀n∈s,n≠0)->cY xs ys=true->cY ys zs=true->cY xs zs=true
 |_,[],_,_,_,_,_,_,a,_=>by simp[cY]at a
 |_,_::_,[],_,_,_,_,_,a,_=>by simp[cY]at a
 |_,_::_,_::_,[],_,_,_,_,_,b=>by simp[cY]at b
 |[],x::xs,_,_,h,_,_,_,_,_=>by cases h
 |n::s,x::xs,y::ys,z::zs,h,h',h'',h0,a,b=>by
  obtain ⟨h1,h2⟩:=Ģ h;obtain ⟨k1,k2⟩:=Ģ h';obtain ⟨l1,l2⟩:=Ģ h'';have hn:=h0 n Ì;have ht:=λm hm=>h0 m (Ê _ hm);have nx:cn x≠0:=by rw[h1];exact hn
  have ny:cn y≠0:=by rw[k1];exact hn
  unfold cY at a b ⊢;by_cases e:x=y
  ·subst e;rw[if_pos ((dD rfl nx).mpr rfl)]at a;by_cases e2:x=z
   ·subst e2;rw[if_pos ((dD rfl nx).mpr rfl)]at b ⊢;exact ltL_tr h2 k2 l2 ht a b
   ·have q:¬ ì x z=true:=λw=>e2 ((dD (h1.trans l1.symm) nx).mp w);rw[if_neg q]at b ⊢;exact b
  ·rw[if_neg λw=>e ((dD (h1.trans k1.symm) nx).mp w)]at a;by_cases e2:y=z
   ·subst e2;rw[if_neg λw=>e ((dD (h1.trans k1.symm) nx).mp w)];exact a
   ·rw[if_neg λw=>e2 ((dD (k1.trans l1.symm) ny).mp w)]at b;have c:=yit a b;by_cases e3:x=z
    ·subst e3;rw[qf8]at c;cases c
    ·rw[if_neg λw=>e3 ((dD (h1.trans l1.symm) nx).mp w)];exact c
end
noncomputable def Shp(s:List Nat)(d:Â):Prop:=shp d=s
theorem ord_K(hs:s.contains 0=false):Ord ci (Shp s):=by
 have h0:∀n∈s,n≠0:=λn hn e=>by
  subst e;rw[List.contains_eq_mem,decide_eq_false_iff_not]at hs;exact hs hn
 have tup:∀{xs:List Â},Shp s (.tuple xs)->∃s',s=3::s'/\tgs s' xs/\∀n∈s',n≠0:=λ{xs} h=>⟨_,h.symm,rfl,λn hn=>h0 n (by rw[<-h];exact Ê _ hn)⟩;have cl:∀{d:Â},Shp s d->(∃i,d=.int i/\s=[1])\/(∃z,d=.str z/\s=[2])\/∃xs,d=.tuple xs:=λ{d} h=>by
  cases d<;>first|exact absurd rfl (h0 0 (by rw[<-h];exact Ì))|skip
  ·exact .inl ⟨_,rfl,h.symm⟩
  ·exact .inr (.inl ⟨_,rfl,h.symm⟩)
  ·exact .inr (.inr ⟨_,rfl⟩)
 refine ⟨λa ha=>?_,λa b c ha hb hc h1 h2=>?_,λa b ha hb h1 h2=>?_⟩
 ·rcases cl ha with ⟨i,rfl,_⟩|⟨i,rfl,_⟩|⟨xs,rfl⟩
  ·exact qf8 (.int i)
  ·exact qf8 (.str i)
  ·obtain ⟨s',_,h,h'⟩:=tup ha;exact qj5 h h'
 ·rcases cl ha with ⟨i,rfl,e⟩|⟨i,rfl,e⟩|⟨xs,rfl⟩
  ·subst e;rcases cl hb with ⟨j,rfl,e⟩|⟨j,rfl,e⟩|⟨ys,rfl⟩<;>first|(cases e;done)|(cases hb;done)|skip
   rcases cl hc with ⟨k,rfl,e⟩|⟨k,rfl,e⟩|⟨zs,rfl⟩<;>first|(cases e;done)|(cases hc;done)|skip
   exact yit (a:=.int i) (b:=.int j) (c:=.int k) h1 h2
  ·subst e;rcases cl hb with ⟨j,rfl,e⟩|⟨j,rfl,e⟩|⟨ys,rfl⟩<;>first|(cases e;done)|(cases hb;done)|skip
   rcases cl hc with ⟨k,rfl,e⟩|⟨k,rfl,e⟩|⟨zs,rfl⟩<;>first|(cases e;done)|(cases hc;done)|skip
   exact yit (a:=.str i) (b:=.str j) (c:=.str k) h1 h2
  ·obtain ⟨s',rfl,h,h'⟩:=tup ha;rcases cl hb with ⟨j,rfl,e⟩|⟨j,rfl,e⟩|⟨ys,rfl⟩<;>first|(cases e;done)|skip
   rcases cl hc with ⟨k,rfl,e⟩|⟨k,rfl,e⟩|⟨zs,rfl⟩<;>first|(cases e;done)|skip
   exact ltL_tr h (Ģ hb).2 (Ģ hc).2 h' h1 h2
 ·rcases cl ha with ⟨i,rfl,e⟩|⟨i,rfl,e⟩|⟨xs,rfl⟩
  ·subst e;rcases cl hb with ⟨j,rfl,e⟩|⟨j,rfl,e⟩|⟨ys,rfl⟩<;>first|(cases e;done)|(cases hb;done)|skip
   exact qfz (a:=.int i) (b:=.int j) rfl (by simp[cn]) h1 h2
  ·subst e;rcases cl hb with ⟨j,rfl,e⟩|⟨j,rfl,e⟩|⟨ys,rfl⟩<;>first|(cases e;done)|(cases hb;done)|skip
   exact qfz (a:=.str i) (b:=.str j) rfl (by simp[cn]) h1 h2
  ·obtain ⟨s',rfl,h,h'⟩:=tup ha;rcases cl hb with ⟨j,rfl,e⟩|⟨j,rfl,e⟩|⟨ys,rfl⟩<;>first|(cases e;done)|skip
   rw[qkb h (Ģ hb).2 h' h1 h2]
end Dp
namespace Dp
open PySem PySem.Spec L2 PyProof.Rows Mx PySem.W
inductive FlatV:Æ->Â->Prop
 |int (i:Int) (t:Tok):FlatV (.int i t) (.int i)
 |str (z:Str) (t:Tok):FlatV (.str z t) (.str z)
inductive FlatA:List Æ->List Â->Prop
 |nil:FlatA [] []
 |cons {u:Æ}{d:Â}{us:List Æ}{ds:List Â}:FlatV u d->FlatA us ds->FlatA (u::us) (d::ds)
theorem FlatA.length(h:FlatA us ds):us.length=ds.length:=by
 induction h with
 |nil=>rfl
 |cons _ _ ih=>exact congrArg (· + 1) ih
inductive ValD(h:Heap):Æ->Â->Prop
 |flat {u:Æ}{d:Â}:FlatV u d->ValD h u d
 |tup {a:Addr}{o:Obj}{its:List Æ}{n:Nat}{xs:List Â}:h.get? a=some o->o.cls=.type "tuple"->o.data=.seq its.toArray n->FlatA its xs->ValD h (.ref a) (.tuple xs)
section
variable {prog:Ü}{w:ï}{A:Ā}{E:Æ->Ç->Prop}{s:Ç}{Q:Bool->Ç->Prop}
theorem lexF:∀{us vs:List Æ}{xs ys:List Â} (i:Nat),FlatA us xs->FlatA vs ys->xs.map cn=ys.map cn->Q (cY xs ys) s->KatLex prog w A true false Q (us.zip vs) i s
 |_,_,_,_,i,.nil,.nil,_,h=>kat_nil h
 |_,_,_,_,i,.nil,.cons _ _,hl,_=>by simp at hl
 |_,_,_,_,i,.cons _ _,.nil,hl,_=>by simp at hl
 |_,_,_,_,i,.cons (ds:=xs) a r,.cons (ds:=ys) b q,hl,h=>by
  obtain ⟨h1,h2⟩:=Ģ hl;cases a with
  |int n t=>
   cases b with
   |str=>cases h1
   |int m u=>
    refine kat_cons (wpAny_eqBool_int ?_);unfold cY at h;refine kat_go (λe=>kat_yes ?_) (λe=>kat_no ?_)
    ·have e':n=m:=by simpa using e
     subst e';rw[if_pos ((dD rfl (by simp[cn])).mpr rfl)]at h;exact lexF (i+1) r q h2 h
    ·have e':¬ n=m:=by simpa using e
     rw[if_neg λz=>e' (by cases (dD (a:=.int n) (b:=.int m) rfl (by simp[cn])).mp z;rfl)]at h;cases i with
     |zero=>exact kat_lt_int h
     |succ i=>exact kat_one _ _ (PyProof.Rows.lt_int h)
  |str n t=>
   cases b with
   |int=>cases h1
   |str m u=>
    refine kat_cons (wpAny_eqBool_str ?_);unfold cY at h;refine kat_go (λe=>kat_yes ?_) (λe=>kat_no ?_)
    ·have e':n=m:=by simpa using e
     subst e';rw[if_pos ((dD rfl (by simp[cn])).mpr rfl)]at h;exact lexF (i+1) r q h2 h
    ·have e':¬ n=m:=by simpa using e
     rw[if_neg λz=>e' (by cases (dD (a:=.str n) (b:=.str m) rfl (by simp[cn])).mp z;rfl)]at h;cases i with
     |zero=>exact kas_lt_str h
     |succ i=>exact kat_one _ _ (PyProof.Rows.lt_str h)
noncomputable def yj1(s:List Nat):SortKind:=if s.head?=some 3 then tuples' true else oneType'
theorem askD(h1:ValD s.heap x dx)(h2:ValD s.heap y dy)(he:shp dx=shp dy)(h:Q (ci dx dy) s):Ë (model prog w) A (keyLt' (yj1 (shp dx)) x y) Q E s:=by
 cases h1 with
 |flat a=>
  cases a with
  |int i t=>
   cases h2 with
   |tup=>cases he
   |flat b=>cases b with
    |str=>cases he
    |int j u=>exact kat_lt_int h
  |str i t=>
   cases h2 with
   |tup=>cases he
   |flat b=>cases b with
    |int=>cases he
    |str j u=>exact kas_lt_str h
 |@tup a o its n xs e1 e2 e3 e4=>
  cases h2 with
  |flat b=>cases b<;>cases he
  |@tup b o2 its2 n2 ys f1 f2 f3 f4=>
   have hm:=(Ģ he).2;refine kat_lt e1 e3 f1 f3 ?_;have ef:decide (its.toArray.size<its2.toArray.size)=false:=decide_eq_false (by
    rw[Ú,Ú,e4.length,f4.length];have:=congrArg List.length hm;rw[Ð,Ð]at this;omega)
   rw[ef];exact lexF 0 e4 f4 hm h
end
inductive ValA(h:Heap):List Æ->List Â->Prop
 |nil:ValA h [] []
 |cons {u:Æ}{d:Â}{us:List Æ}{ds:List Â}:ValD h u d->ValA h us ds->ValA h (u::us) (d::ds)
theorem ValA.length(x:ValA h us ds):us.length=ds.length:=by
 induction x with
 |nil=>rfl
 |cons _ _ ih=>exact congrArg (· + 1) ih
theorem ValD.keep(x:ValD h u d)(k:∀b o,o.cls=.type "tuple"->h.get? b=some o->h'.get? b=some o):ValD h' u d:=by
 cases x with
 |flat a=>exact .flat a
 |tup e1 e2 e3 e4=>exact .tup (k _ _ e2 e1) e2 e3 e4
theorem ValA.keep(x:ValA h us ds)(k:∀b o,o.cls=.type "tuple"->h.get? b=some o->h'.get? b=some o):ValA h' us ds:=by
 induction x with
 |nil=>exact .nil
 |cons a _ ih=>exact .cons (a.keep k) ih
theorem ValA.at_(x:ValA h us ds){i:Nat}(hi:i<us.length):ValD h (us.getD i ó) (ds.getD i .none):=by
 induction x generalizing i with
 |nil=>simp at hi
 |cons a _ ih=>
  cases i with
  |zero=>exact a
  |succ n=>simpa using ih (i:=n) (by simpa using hi)
noncomputable def tyT(n:Nat):Æ:=if n=1 then .type "int" else .type "str"
theorem katD(h0:n≠0):∀{us:List Æ}{ds:List Â},ValA h us ds->(∀d∈ds,shp d=3::n::s)->∃fs:List Æ,KatTups h us fs/\fs.length=us.length/\∀v∈fs,typeOf v=pure (tyT n)
 |_,_,.nil,_=>⟨[],.nil,rfl,λv hv=>by simp at hv⟩
 |_,_,.cons (d:=d) a r,hs=>by
  obtain ⟨fs,k1,k2,k3⟩:=katD h0 r λd hd=>hs d (Ê _ hd);have hd:=hs d Ì;cases a with
  |flat b=>cases b<;>simp[shp]at hd
  |@tup a o its m xs e1 e2 e3 e4=>
   cases e4 with
   |nil=>simp[shp]at hd
   |cons f g=>
    have hn:cn _=n:=(Ģ (Ģ hd).2).1;cases f with
    |int i t=>
     subst hn;exact ⟨.int i t::fs,.cons e1 e2 e3 rfl k1,by simp[k2],λv hv=>by
      rcases ñ.mp hv with rfl|hv
      ·rfl
      ·exact k3 v hv⟩
    |str i t=>
     subst hn;exact ⟨.str i t::fs,.cons e1 e2 e3 rfl k1,by simp[k2],λv hv=>by
      rcases ñ.mp hv with rfl|hv
      ·rfl
      ·exact k3 v hv⟩
theorem yic:∀{us:List Æ}{ds:List Â},ValA h us ds->n=1\/n=2->(∀d∈ds,shp d=[n])->∀v∈us,typeOf v=pure (tyT n)
 |_,_,.nil,_,_,v,hv=>by simp at hv
 |_,_,.cons (d:=d) a r,hn,hs,v,hv=>by
  rcases ñ.mp hv with rfl|hv
  ·have hd:=hs d Ì;cases a with
   |flat b=>
    cases b with
    |int i t=>cases hd;rfl
    |str i t=>cases hd;rfl
   |tup=>
    have:=(Ģ hd).1;omega
  ·exact yic r hn (λd hd=>hs d (Ê _ hd)) v hv
theorem qgr(h:fw ds=true):ds.length<2\/∃s,s.contains 0=false/\s≠[3]/\∀d∈ds,shp d=s:=by
 match ds,h with
 |[],_=>exact .inl (by simp)
 |[_],_=>exact .inl (by simp)
 |d::e::r,h=>
  unfold fw at h;simp only[Å,Ŕ,decide_eq_false_iff_not,Û,decide_eq_true_eq]at h;refine .inr ⟨shp d,h.1.1,h.1.2,λx hx=>?_⟩;rcases ñ.mp hx with rfl|hx
  ·rfl
  ·exact h.2 x hx
section
variable {prog:Ü}{w:ï}{A:Ā}{E:Æ->Ç->Prop}{s:Ç}
theorem qi0:∀{ds:List Â},ds.length<2->b7 lt ds=ds
 |[],_=>rfl
 |[v],_=>rfl
 |_::_::_,h=>absurd h (by simp)
theorem qjh(ho:s.heap.get? a=some (ī "list" vs.toArray n))(h64:vs.length<64)(hV:ValA s.heap vs ds)(hO:fw ds=true)
  (h:∀p:Array Nat,PmN p vs.length->(p.toList.map λi=>ds.getD i .none)=b7 ci ds->P (.done (.ret .none)) { s with heap:=sortedHeap s.heap a vs (Ġ (p.toList.map λi=>vs.getD i ó)) }) :
  Ë (model prog w) A (Ĵ.«list.sort» ⟨[.ref a],[]⟩) P E s:=by
 have hl:=hV.length;rcases qgr hO with h2|⟨sh,s1,s2,s3⟩
 ·have hz:vs.length<2:=by omega
  refine yhf ho hz ?_;have:=h (Ġ (õ vs.length)) (Array.Perm.refl _) ?_
  ·rw[qfx hz]at this;exact this
  ·rw[hl,qi0 h2];exact qfx h2
 ·have o:=ord_K s1;have hP:∀x∈ds,Shp sh x:=s3;have keep:∀s1:Ç,(∀b o,b≠a->s.heap.get? b=some o->s1.heap.get? b=some o)->ValA s1.heap vs ds:=λs1 k=>hV.keep λb o hc e=>k b o (λz=>by
   rw[z,ho]at e;cases e;exact absurd (Value.type.inj (show Ο "list"=Ο "tuple" from hc)) (by decide)) e
  have hget:∀{i:Nat},i<vs.length->ds.getD i .none∈ds:=λ{i} hi=>by
   rw[à,Í (by omega:i<ds.length)];exact ε _
  refine sort_by (κ:=yj1 sh) (g:=λi=>rkN ci ds (ds.getD i .none)) ho h64 (λh2 s1' k Q q=>?_) (λs1' k i j hi hj C cc=>?_) λp pm up=>?_
  ·have hV':=keep s1' k;cases sh with
   |nil=>
    exfalso;cases ds with
    |nil=>have hl':vs.length=0:=hl;omega
    |cons d r=>have:=s3 d Ì;cases d<;>cases this
   |cons m sh=>
    by_cases hm:m=3
    ·subst hm;cases sh with
     |nil=>exact absurd rfl s2
     |cons m2 sh=>
      have hm0:m2≠0:=λz=>by subst z;simp at s1
      obtain ⟨fs,k1,k2,k3⟩:=katD hm0 hV' s3;refine kat_kind (T:=tyT m2) k1 (by omega) (λv hv=>?_) ?_ ?_
      ·exact Looks.of_pure (k3 v hv)
      ·unfold tyT;split<;>decide
      ·have e:yj1 (3::m2::sh)=tuples' true:=rfl;rw[e]at q;rw[show (tyT m2 != Ο "tuple")=true by unfold tyT;split<;>decide];exact q
    ·have hk:yj1 (m::sh)=oneType':=by unfold yj1;simp[hm]
     have h1:(m=1\/m=2)/\sh=[]:=by
      cases ds with
      |nil=>have hl':vs.length=0:=hl;omega
      |cons d r=>
       have:=s3 d Ì;cases d<;>simp only[shp,Ś]at this
       all_goals first
        |exact ⟨.inl this.1.symm,this.2.symm⟩
        |exact ⟨.inr this.1.symm,this.2.symm⟩
        |exact absurd this.1.symm hm
        | (exfalso;have:=this.1;subst this;simp at s1)
     obtain ⟨h1,rfl⟩:=h1;rw[hk]at q;refine kas_kind (T:=tyT m) h2 (λv hv=>Looks.of_pure (yic hV' h1 s3 v hv)) ?_ ?_ q
     ·unfold tyT;split<;>decide
     ·unfold tyT;split<;>decide
  ·have hV':=keep s1' k;have e:=rk_lt o hP (hget hi) (hget hj);rw[<-e]at cc;have:=askD (prog:=prog) (w:=w) (A:=A) (E:=λ_ _=>False) (hV'.at_ hi) (hV'.at_ hj) (by rw[s3 _ (hget hi),s3 _ (hget hj)]) cc;rw[s3 _ (hget hi)]at this;exact this
  ·refine h p pm (qb2 o hP (ygq _ _ (by rw[<-hl];exact pm)) ?_);have r:=rise_out (λi=>ds.getD i .none) (λd=>rkN ci ds d) pm.size (λi=>rfl) up;refine List.Pairwise.imp_of_mem (λ{x y} hx hy hxy=>?_) r;have mem:∀z∈p.toList.map (λi=>ds.getD i ξ),z∈ds:=λz hz=>(ygq ξ ds (by rw[<-hl];exact pm)).mem_iff.mp hz;rw[rk_lt o hP (mem y hy) (mem x hx)];exact decide_eq_false (by omega)
end
end Dp
namespace Dp
open PySem PySem.Spec L2 PyProof.Rows Mx PySem.W
theorem qig{K:Kc}{H:Hp}:∀{ws:List V}{ds:List Â}{us:List Æ},DtA K H ws ds->Vals ws us->(∀n∈ds.map cn,n≠0)->FlatA us ds
 |_,_,_,.nil,.nil,_=>.nil
 |_,d::ds,_,.cons a t,.cons r q,h=>by
  refine .cons ?_ (qig t q λn hn=>h n (Ê _ hn));have h0:=h (cn d) Ì;cases a with
  |int i=>obtain ⟨t,rfl⟩:=r;exact .int i t
  |str i=>obtain ⟨t,rfl⟩:=r;exact .str i t
  |_=>exact absurd rfl h0
section
variable {X:Cx}{pins:List (Addr×Obj)}{σ:L2.St}{H:Hp}{s:Ç}
theorem val_of(I:Inv X pins σ H s):∀{ws:List V}{ds:List Â}{us:List Æ},DtA X.kc H ws ds->Vals ws us->(∀d∈ds,(shp d).contains 0=false)->ValA s.heap us ds
 |_,_,_,.nil,.nil,_=>.nil
 |_,d::ds,_,.cons a t,.cons r q,h=>by
  refine .cons ?_ (val_of I t q λd hd=>h d (Ê _ hd));have h0:=h d Ì;cases a with
  |int i=>obtain ⟨t,rfl⟩:=r;exact .flat (.int i t)
  |str i=>obtain ⟨t,rfl⟩:=r;exact .flat (.str i t)
  |tup e f=>
   cases r;obtain ⟨its,rv,⟨o,ho,hc,n,hd⟩,_⟩:=I.tuple e;refine .tup ho hc hd (qig f rv λn hn z=>?_);subst z;rw[List.contains_eq_mem,decide_eq_false_iff_not]at h0;exact h0 (Ê _ hn)
  |_=>cases h0
theorem ykc(lt:α->α->Bool):∀{l:List α},l.length<2->b7 lt l=l
 |[],_=>rfl
 |[_],_=>rfl
 |_::_::_,h=>absurd h (by simp)
noncomputable def cS(ds:List Â):Bool:=fw ds&&decide (ds.length<64)
theorem okS_tags(h:fw ds=true)(h2:2<=ds.length):∀d∈ds,(shp d).contains 0=false:=by
 rcases qgr h with z|⟨s,s1,_,s3⟩
 ·omega
 ·intro d hd;rw[s3 d hd];exact s1
noncomputable def Prm(ws ws':List V)(ds ds':List Â):Prop:=∃idx:List Nat,(∀i∈idx,i<ws.length)/\ws'=idx.map (ws.getD · .non)/\ds'=idx.map (ds.getD · .none)
theorem dtA_getD{K:Kc}{H:Hp}{ws:List V}{ds:List Â}(a:DtA K H ws ds){i:Nat}(hi:i<ws.length):Dt K H (ws.getD i .non) (ds.getD i .none):=by
 obtain ⟨v,h1,h2⟩:=ycr a (d:=ds[i]'(by rw[<-a.length];exact hi)) (i:=i) (Í _);rw[à,à,h1,Í (by rw[<-a.length];exact hi)];exact h2
theorem Prm.at_{K:Kc}{H:Hp}{ws ws':List V}{ds ds':List Â}(p:Prm ws ws' ds ds')(a:DtA K H ws ds):DtA K H ws' ds':=by
 obtain ⟨idx,h1,rfl,rfl⟩:=p;induction idx with
 |nil=>exact .nil
 |cons i r ih=>exact .cons (dtA_getD a (h1 i Ì)) (ih λj hj=>h1 j (Ê _ hj))
theorem qhe(v:Vals ws us):∀{idx:List Nat},(∀i∈idx,i<ws.length)->Vals (idx.map (ws.getD · .non)) (idx.map λi=>us.getD i ó)
 |[],_=>.nil
 |i::r,h=>by
  refine .cons ?_ (qhe v λj hj=>h j (Ê _ hj));have hi:=h i Ì;obtain ⟨u,h1,h2⟩:=v.get (i:=i) (x:=ws[i]) (Í hi);show L2.RelV (ws.getD i .non) (us.getD i ó);rw[à,à,h1,Í hi];exact h2
theorem qet{Q:VK}{A:Ā}{E:Æ->Ç->Prop}{h':Heap}{tk:Nat}{dr:Drawn}{ws:List V}{us:List Æ}{ds:List Â}(I:Inv X pins σ H s)(kp:∀b o,s.heap.get? b=some o->h'.get? b=some o)(hz:s.heap.objs.size<=h'.objs.size)
  (hv:Vals ws us) (ha:DtA X.kc H ws ds) (hk:cS ds=true) (q:∀p ws',H p=none->Prm ws ws' ds (b7 ci ds)->Q (.ref p) (upd H p (.lst ws'))) :
  Ë (model X.prog X.w) A (Ĵ.«list.sort» ⟨[.ref h'.objs.size],[]⟩) (λf s3=>f=.done (.ret .none)/\EP X pins σ Q (.ref h'.objs.size) s3) E { s with heap:=h'.push (ī "list" us.toArray 0),toks:=tk,drawn:=dr }:=by
 unfold cS at hk;simp only[Å,decide_eq_true_eq]at hk;have l1:=hv.length;have l2:=ha.length;have gL:(h'.push (ī "list" us.toArray 0)).get? h'.objs.size=some (ī "list" us.toArray 0):=Ô _ rfl;have I2:Inv X pins σ H { s with drawn:=dr }:=⟨I.ok,I.os,I.bare,I.base,I.loc,I.cell,I.free,I.freeC,I.pin,I.hok,I.len⟩;have fin:∀(p:List Nat),(∀i∈p,i<ws.length)->p.length=ws.length->(p.map λi=>ds.getD i .none)=b7 ci ds->EP X pins σ Q (.ref h'.objs.size) { s with heap:=sortedHeap (h'.push (ī "list" us.toArray 0)) h'.objs.size us (Ġ (p.map λi=>us.getD i ó)),toks:=tk,drawn:=dr }:=λp hp hpl hs=>by
  obtain ⟨ep,ge⟩:=sortedHeap_at (out:=Ġ (p.map λi=>us.getD i ó)) gL;have hf:H h'.objs.size=none:=I.hok.fresh hz;refine ⟨.ref h'.objs.size,_,I2.laid (o:=.lst (p.map (ws.getD · .non))) (t':=tk) (λb o g=>?_) hz ?_,rfl,q _ _ hf ⟨p,hp,rfl,hs.symm⟩⟩
  ·have hb:b<h'.objs.size:=é (kp b o g);rw[sortedHeap_old (ĉ hb) (by rw[show (h'.push (ī "list" us.toArray 0)).objs.size=h'.objs.size+1 from Ŀ ..];exact ű hb)];exact È _ (kp b o g)
  ·exact ⟨qf7 (by rw[Ð];omega),_,ep,qhe hv hp,ge⟩
 by_cases h2:2<=ds.length
 ·refine qjh (s:={ s with heap:=h'.push (ī "list" us.toArray 0),toks:=tk,drawn:=dr }) gL (by omega) ((val_of I ha hv (okS_tags hk.1 h2)).keep λb o _ e=>È _ (kp b o e)) hk.1 λp pm hs=>⟨rfl,?_⟩;have hm:∀i,i∈p.toList↔i<us.length:=λi=>by
   have:=(Array.perm_iff_toList_perm.mp pm).mem_iff (a:=i)
   simpa using this
  exact fin p.toList (λi hi=>by rw[l1];exact (hm i).mp hi) (by rw[ä,pm.size,l1]) hs
 ·refine yhf (s:={ s with heap:=h'.push (ī "list" us.toArray 0),toks:=tk,drawn:=dr }) gL (by omega) ⟨rfl,?_⟩;have:=fin (õ ws.length) (λi hi=>mem_range.mp hi) π ?_
  ·rw[l1,L2.yco]at this;exact this
  ·rw[l2,L2.yco,ykc _ (by omega)]
end
noncomputable def rSortL(K:Kc):List V->Hp->VK->Prop:=λxs H Q=>∃l ws ds,xs=[.ref l]/\H l=some (.lst ws)/\DtA K H ws ds/\cS ds=true/\∀p ws',H p=none->Prm ws ws' ds (b7 ci ds)->Q (.ref p) (upd H p (.lst ws'))
section
variable {X:Cx}
theorem yho:bH X (.builtin "sorted") (rSortL X.kc):=by
 intro pins s σ H xs us Q I r h;obtain ⟨l,ws,ds,rfl,hH,ha,hk,q⟩:=h;cases r with
 |cons r rr=>
  cases rr;cases r;obtain ⟨z,its,n,rv,hl,e⟩:=I.lstM hH;have l1:=rv.length;have l2:=ha.length;have h64:ds.length<64:=by unfold cS at hk;simp only[Å,decide_eq_true_eq]at hk;exact hk.2
  refine qdh (collect_list (vs:=its) ⟨_,e,rfl,n,rfl⟩ ⟨by omega,λs2 hs=>?_⟩ (qf7 (by omega)));subst hs;have kp:∀b o,s.heap.get? b=some o->((s.heap.push (ī "list" #[] 0)).update s.heap.objs.size (Ĝ (·++its.toArray))).get? b=some o:=λb o g=>
   (Ŷ _ _ (ń (ĉ (é g)))).trans (È _ g)
  exact qet (s:=s) (h':=(s.heap.push (ī "list" #[] 0)).update s.heap.objs.size (Ĝ (·++its.toArray))) (tk:=s.toks) (dr:=s.drawn) I kp (by show _<=Array.size _;rw[size_update,Ŀ];exact le_succ _) rv ha hk q
end
end Dp
namespace Dp
open PySem PySem.Spec L2 PyProof.Rows Mx PySem.W
noncomputable def aZ:List Â->List Â
 |[]=>[]
 |d::r=>if (aZ r).any (λe=>ì e d)=true then aZ r else d::aZ r
noncomputable def Eqv(P:Â->Prop):Prop:=∀a b,P a->P b->(ì a b=true↔a=b)
theorem qga(e:Eqv P):∀{ds:List Â},(∀d∈ds,P d)->∀x,x∈aZ ds↔x∈ds
 |[],_,x=>Iff.rfl
 |d::r,h,x=>by
  have hr:∀d∈r,P d:=λy hy=>h y (Ê _ hy);have ih:=qga e hr;unfold aZ;split
  ·rename_i z
   obtain ⟨y,hy,q⟩:=any_eq_true.mp z;have:y=d:=(e _ _ (hr y ((ih y).mp hy)) (h d Ì)).mp q;subst this;rw[ih x,ñ];exact ⟨.inr,λz=>z.elim (λz=>by rw[z];exact (ih y).mp hy) id⟩
  ·rw[ñ,ñ,ih x]
theorem ycd(e:Eqv P):∀{ds:List Â},(∀d∈ds,P d)->(aZ ds).Nodup
 |[],_=>.nil
 |d::r,h=>by
  have hr:∀d∈r,P d:=λy hy=>h y (Ê _ hy);unfold aZ;split
  ·exact ycd e hr
  ·rename_i z
   refine nodup_cons.mpr ⟨λhm=>z (any_eq_true.mpr ⟨d,hm,?_⟩),ycd e hr⟩;exact (e d d (h d Ì) (h d Ì)).mpr rfl
noncomputable def isI(d:Â):Prop:=∃i,d=.int i
theorem qjg:Eqv isI:=λa b ⟨i,h1⟩ ⟨j,h2⟩=>by subst h1 h2;simp[ì]
noncomputable def bb(ks:List Int):Â:=.tuple (ks.map .int)
noncomputable def isTI(d:Â):Prop:=∃ks,d=bb ks
theorem qg2:∀{a b:List Int},a.map û=b.map û->a=b
 |[],[],_=>rfl
 |[],_::_,h=>by simp at h
 |_::_,[],h=>by simp at h
 |x::a,y::b,h=>by
  simp only[þ,Ś,PyData.int.injEq]at h;rw[h.1,qg2 h.2]
theorem yg7:∀(a b:List Int),œ (a.map .int) (b.map .int)=decide (a=b)
 |[],[]=>rfl
 |[],_::_=>rfl
 |_::_,[]=>rfl
 |x::a,y::b=>by
  show (ì (.int x) (.int y)&&œ (a.map .int) (b.map .int))=_;rw[yg7 a b,show ì (.int x) (.int y)=(x == y) from rfl];simp only[Ś,Bool.decide_and];rfl
theorem yet(h:bb a=bb b):a=b:=by
 unfold bb at h;simp only[PyData.tuple.injEq]at h;exact qg2 h
theorem qej:Eqv isTI:=λa b ⟨x,h1⟩ ⟨y,h2⟩=>by
 subst h1 h2;show œ (x.map .int) (y.map .int)=true↔_;rw[yg7,decide_eq_true_eq];exact ⟨λh=>by rw[h],yet⟩
noncomputable def dO:List Â->Option (List (List Int))
 |[]=>some []
 |.tuple xs::r=>(qeg xs).bind λk=>(dO r).map (k :: ·)
 |_=>none
theorem qcj:∀{ds:List Â}{ns:List Int},qeg ds=some ns->ds=ns.map .int
 |[],ns,h=>by cases h;rfl
 |d::ds,ns,h=>by
  cases d with
  |int i=>
   obtain ⟨ns',e,rfl⟩:=Á.mp h;rw[qcj e];rfl
  |_=>cases h
theorem yfm:∀{ds:List Â}{ks:List (List Int)},dO ds=some ks->ds=ks.map bb
 |[],ks,h=>by cases h;rfl
 |d::ds,ks,h=>by
  cases d with
  |tuple xs=>
   obtain ⟨k,e1,h⟩:=bnd h;obtain ⟨ks',e2,rfl⟩:=Á.mp h;rw[yfm e2,qcj e1];rfl
  |_=>cases h
noncomputable def qfq(ds:List Â):Bool:=match qeg ds with
 |some ns=>decide (ns.length<64)
 |none=>match dO ds with
  |some _=>fw ds&&decide ((aZ ds).length<=4)
  |none=>false
theorem qfv(h:fw ds=true)(hs:∀x∈us,x∈ds)(hl:us.length<=ds.length):fw us=true:=by
 match us with
 |[]=>rfl
 |[_]=>rfl
 |d::e::r=>
  rcases qgr h with z|⟨s,s1,s2,s3⟩
  ·simp at hl;omega
  ·unfold fw;simp only[Å,Ŕ,decide_eq_false_iff_not,Û,decide_eq_true_eq];have hd:=s3 d (hs d Ì);exact ⟨⟨by rw[hd];exact s1,by rw[hd];exact s2⟩,λx hx=>by rw[hd];exact s3 x (hs x (Ê _ hx))⟩
theorem ye0(h:fw ds=true)(p:us.Perm ds):b7 ci us=b7 ci ds:=by
 rcases qgr h with z|⟨s,s1,_,s3⟩
 ·match ds,z with
  |[],_=>rw[List.perm_nil.mp p]
  |[d],_=>rw[List.perm_singleton.mp p]
 ·exact qb2 (ord_K s1) (λx hx=>s3 x hx) ((ybu us).trans p) (qer (ord_K s1) λx hx=>s3 x (p.mem_iff.mp hx))
section
variable {X:Cx}
theorem tis_K(I:Inv X pins σ H s){ts:List TL}(hT:∀t∈ts,SqT X.K H t.1 (t.2.map V.int)):TIs s.heap ts:=λt ht=>by
 obtain ⟨its,r,⟨o,h1,h2,n,h3⟩,_⟩:=I.tuple (hT t ht);exact ⟨o,its,n,h1,h2,h3,ybx r⟩
noncomputable def rSetK(K:Kc):List V->Hp->VK->Prop:=λxs H Q=>∃(l:Addr) (ts:List TL) (ks:List (List Int)),xs=[.ref l]/\H l=some (.lst (cg ts))/\(∀t∈ts,SqT K.K H t.1 (t.2.map V.int))/\ks.length<=4/\(∀t∈ts,t.2∈ks)/\
 ∀(p:Addr) (us:List TL),H p=none->(∀u∈us,u∈ts)->(us.map (·.2)).Nodup->(∀t∈ts,t.2∈us.map (·.2))->Q (.ref p) (upd H p (qf3 K.P K.w p us))
theorem qkj(hc:X.calm=true)(hu:X.A.units+64<Ž):bH X (.type "set") (rSetK X.kc):=by
 intro pins s σ H xs us Q I r h;obtain ⟨l,ts,ks,rfl,hH,hT,h4,hks,q⟩:=h;cases r with
 |cons r rr=>
  cases rr;cases r;obtain ⟨z,its,n,rv,hl,e⟩:=I.lstM hH;have ei:=qim rv;subst ei;have hlt:(cr ts).length=ts.length:=Ð _;have hf:H s.heap.objs.size=none:=I.hok.fresh (Ò _);have tis:=tis_K I hT;have hm:∀i,i<(cr ts).toArray.size->ts.getD i (0,[])∈ts:=λi hi=>by
   rw[Ú,hlt]at hi;rw[à,Í hi];exact ε hi
  refine qj1 (f:=λi=>(ts.getD i (0,[])).2) (ad:=λi=>(ts.getD i (0,[])).1) (Z:=λq=>(q.2,q.1)∈ts) (by simpa using I.ok.hd hc) (its:=(cr ts).toArray) ⟨_,e,rfl,n,rfl⟩
   (λi hi=>hm i hi) (λi v hv=>?_) (λi hi=>tis.key (hm i hi)) (λi hi ho=>?_) (by omega) λh' tk S kp=>?_
  ·have hi:i<ts.length:=by
    have:=(ĳ.mp hv).1
    rwa [Ú,hlt]at this
   unfold cr at hv;rw[Υ,Ĉ,Í hi]at hv;simp only[Option.map_some,Option.some.injEq]at hv;rw[<-hv,à,Í hi];rfl
  ·refine qhl h4 (λj hj=>?_) hi ho;exact hks _ (hm j hj)
  ·obtain ⟨qs,SV,hk,pm,nd,hZ⟩:=S.v;have e0:(qs.map λq:List Int×Addr=>ã q.2)=cr (qs.map λq=>(q.2,q.1)):=by
    unfold cr;rw[ŷ];rfl
   rw[e0]at SV;have e1:(qs.map λq=>(q.2,q.1)).map (·.2)=qs.map (·.1):=by rw[ŷ];rfl
   have hin:∀t∈ts,t.2∈qs.map (·.1):=λt ht=>pm.mem_iff.mpr <| (qco _ _ _).mpr <| by
    obtain ⟨i,hi,ei⟩:=aF ht;exact ⟨i,by rw[Ú,hlt];exact hi,by rw[à,Í hi,ei];rfl⟩
   refine ⟨.ref s.heap.objs.size,_,I.laid (o:=qf3 X.prog X.w s.heap.objs.size (qs.map λq=>(q.2,q.1))) (t':=tk) (λb o g=>kp b o (é g) g) (Ò _) ?_,rfl,
    q _ _ hf (λu hu=>?_) (by rw[e1];exact pm.nodup_iff.mpr nd) (by rw[e1];exact hin)⟩
   ·refine ⟨SV,?_,λh1 h2 x y=>SetV.at x y⟩;obtain ⟨o,es,ep,t,g,_⟩:=SV;exact ⟨o,g⟩
   ·obtain ⟨q',hq',rfl⟩:=Ō.mp hu;exact hZ q' hq'
noncomputable def dP(t:TL):Â:=bb t.2
noncomputable def rSortK(K:Kc):List V->Hp->VK->Prop:=λxs H Q=>∃(a:Addr) (us:List TL),xs=[.ref a]/\H a=some (qf3 K.P K.w a us)/\(∀t∈us,SqT K.K H t.1 (t.2.map V.int))/\cS (us.map dP)=true/\
 ∀(p:Addr) (ts:List TL),H p=none->(∀t∈ts,t∈us)->ts.map dP=b7 ci (us.map dP)->Q (.ref p) (upd H p (.lst (cg ts)))
theorem tl_at{K:Kc}{H:Hp}:∀{us:List TL},(∀t∈us,SqT K.K H t.1 (t.2.map V.int))->DtA K H (cg us) (us.map dP)
 |[],_=>.nil
 |t::us,h=>by
  refine .cons (.tup (h t Ì) ?_) (tl_at λt ht=>h t (Ê _ ht));generalize t.2=ks;induction ks with
  |nil=>exact .nil
  |cons k ks ih=>exact .cons (.int k) ih
theorem yhw(hc:X.calm=true):bH X (.builtin "sorted") (rSortK X.kc):=by
 intro pins s σ H xs us Q I r h;obtain ⟨a,us,rfl,hH,hT,hO,q⟩:=h;cases r with
 |cons r rr=>
  cases rr;cases r;have hO':=hO;unfold cS at hO';simp only[Å,decide_eq_true_eq,Ð]at hO';obtain ⟨S,_⟩:=I.hok a _ hH;have hlt:(cr us).length=us.length:=Ð _;refine qdh (qg8 (by simpa using I.ok.hd hc) S (by omega) λvs h' d tk pm hz kp=>?_);obtain ⟨ts,rfl,pt⟩:=yfc pm;have hl2:(cr ts).length=ts.length:=Ð _;have hl3:=pt.length_eq;refine ⟨by omega,λs2 hs=>?_⟩;subst hs;have pd:(ts.map dP).Perm (us.map dP):=pt.map _;have hT':∀t∈ts,SqT X.K H t.1 (t.2.map V.int):=λt ht=>hT t (pt.mem_iff.mp ht);have hok:cS (ts.map dP)=true:=by
   unfold cS;simp only[Å,decide_eq_true_eq,Ð];exact ⟨qfv hO'.1 (λx hx=>pd.mem_iff.mp hx) (by rw[pd.length_eq];exact Ò _),by omega⟩
  refine qet (s:=s) (h':=h') (tk:=tk) (dr:=d) I kp (γ hz) (qft ts) (tl_at hT') hok λp ws' hp pr=>?_;rw[ye0 hO'.1 pd]at pr;obtain ⟨idx,h1,rfl,h3⟩:=pr;have h1':∀i∈idx,i<ts.length:=λi hi=>by have:=h1 i hi;rwa [cg,Ð]at this
  have e1:idx.map ((cg ts).getD · V.non)=cg (idx.map (ts.getD · (0,[]))):=by
   unfold cg;rw[ŷ];refine aE λi hi=>?_;have:=h1' i hi;show ((ts.map _).getD i V.non)=V.ref (ts.getD i (0,[])).1;rw[à,à,Ĉ,Í this];rfl
  have e2:(idx.map (ts.getD · (0,[]))).map dP=idx.map ((ts.map dP).getD · .none):=by
   rw[ŷ];refine aE λi hi=>?_;have:=h1' i hi;show dP (ts.getD i (0,[]))=(ts.map dP).getD i .none;rw[à,à,Ĉ,Í this];rfl
  rw[e1];refine q p _ hp (λt ht=>?_) (by rw[e2,<-h3]);obtain ⟨i,hi,rfl⟩:=Ō.mp ht;rw[à,Í (h1' i hi)];exact pt.mem_iff.mp (ε _)
theorem tl_of{K:Kc}{H:Hp}:∀{ks:List (List Int)}{ws:List V},DtA K H ws (ks.map bb)->∃ts:List TL,ws=cg ts/\ts.map (·.2)=ks/\∀t∈ts,SqT K.K H t.1 (t.2.map V.int)
 |[],_,.nil=>⟨[],rfl,rfl,λt ht=>nomatch ht⟩
 |k::ks,_,.cons a r=>by
  obtain ⟨ts,rfl,e2,e3⟩:=tl_of r;cases a with
  |@tup b vs _ e f=>
   have:vs=k.map V.int:=qbw f (by clear f e3 e2 r;induction k with
    |nil=>rfl
    |cons x k ih=>show (qeg (k.map .int)).map (x :: ·)=_;rw[ih];rfl)
   subst this;exact ⟨(b,k)::ts,rfl,by rw[þ,e2],λt ht=>by
    rcases ñ.mp ht with rfl|ht
    ·exact e
    ·exact e3 t ht⟩
noncomputable def qa1:FF:=λds S=>(cq ds).bind λd=>(lsD d S).bind λl=>if qfq l=true then some (.d (.list (b7 ci (aZ l))),S) else none
theorem ygy(ns:List Int):∃ms:List Int,aZ (ns.map .int)=ms.map .int/\ms.Perm (uniq ns):=by
 have hP:∀d∈ns.map û,isI d:=λd hd=>by obtain ⟨i,_,rfl⟩:=Ō.mp hd;exact ⟨i,rfl⟩
 have hm:=qga qjg hP;have hn:=ycd qjg hP;have:∀l:List Â,(∀d∈l,isI d)->∃ms:List Int,l=ms.map .int:=λl=>by
  induction l with
  |nil=>exact λ_=>⟨[],rfl⟩
  |cons d l ih=>
   intro h;obtain ⟨ms,rfl⟩:=ih λx hx=>h x (Ê _ hx);obtain ⟨i,rfl⟩:=h d Ì;exact ⟨i::ms,rfl⟩
 obtain ⟨ms,e⟩:=this _ λd hd=>hP d ((hm d).mp hd);refine ⟨ms,e,?_⟩;rw[e]at hn hm;refine (List.perm_ext_iff_of_nodup ?_ (qh3 ns)).mpr λx=>?_
 ·exact List.Pairwise.of_map û (λa b h e=>h (by rw[e])) hn
 ·rw[uniq_mem];have:=hm (.int x);rw[mem_map,mem_map]at this;exact ⟨λh=>by obtain ⟨y,hy,e⟩:=this.mp ⟨x,h,rfl⟩;cases e;exact hy,λh=>by obtain ⟨y,hy,e⟩:=this.mpr ⟨x,h,rfl⟩;cases e;exact hy⟩
theorem up_ints{ns:List Int}(h:ns.Pairwise (·<=·)):Up ci (ns.map û):=by
 unfold Up;rw[List.pairwise_map];refine h.imp λ{a b} hab=>?_;show decide (b<a)=false;exact decide_eq_false (by omega)
theorem ygj{K:Kc}{H:Hp}:∀ns:List Int,DtA K H (ns.map V.int) (ns.map û)
 |[]=>.nil
 |i::ns=>.cons (.int i) (ygj ns)
theorem shp_ints{ns:List Int}:∀d∈ns.map û,Shp [1] d:=λd hd=>by obtain ⟨i,_,rfl⟩:=Ō.mp hd;rfl
theorem yjd{ns ns':List Int}(p:ns'.Perm (uniq ns))(u:ns'.Pairwise (·<=·)):ns'.map û=b7 ci (aZ (ns.map .int)):=by
 obtain ⟨ms,e,pm⟩:=ygy ns;rw[e];exact qb2 (ord_K (s:=[1]) (by decide)) shp_ints ((p.trans pm.symm).map _) (up_ints u)
end
section
variable {X:Cx}{e:Expr}{f:FE}{p pos p2 pos2:Pos}
theorem qja{nm:Str}{id:String}{rI rT:List V->Hp->VK->Prop}{t:TE}(g1:Gl X "set")(m1:X.mg "set"=none)(g2:Gl X nm)(m2:X.mg nm=none)(hb:Ī nm=some (.builtin id))(hn:nm≠"__name__")(hd:(nm == ("__debug__" : Str))=false)
  (c1:bH X (.type "set") rI) (c2:bH X (.builtin id) rT) (p1:PE X e t) (hs:bA e=true):PE X (.Call (.Name nm p) [.Call (.Name "set" p2) [e] [] pos2] [] pos) (tCB rT (yfy (tCB rI (yfy t tNil)) tNil)):=
 qep c2 g2 m2 hb (ybe (ye4 c1 g1 m1 boot_set (ybe p1 ydk (bM hs)) (by decide) (by decide) (bM hs)) ydk) hn hd
theorem yhp(e:Eqv P){ds:List Â}:(aZ ds).length<=ds.length:=by
 induction ds with
 |nil=>exact Ò _
 |cons d r ih=>
  unfold aZ;split
  ·exact Nat.le_succ_of_le ih
  ·exact Nat.succ_le_succ ih
theorem yh2{n:Nat}(hr:Room n X.A)(hc:X.calm=true)(g1:Gl X "set")(m1:X.mg "set"=none)(g2:Gl X "sorted")(m2:X.mg "sorted"=none)(hs:bA e=true)(h:DE X e f):DE X (.Call (.Name "sorted" p) [.Call (.Name "set" p2) [e] [] pos2] [] pos) (č qa1 (Ñ f Î)):=by
 obtain ⟨t,p1,d1⟩:=h;refine ⟨_,qja g1 m1 g2 m2 ybq (by decide) (by decide) ((yfp hc).or (qkj hc hr.units)) ((qe6 hc).or (yhw hc)) p1 hs,λL ρ σ x r S' Q h k rl q=>?_⟩;obtain ⟨⟨ds,S1⟩,e1,h⟩:=bnd h;obtain ⟨⟨d,S2⟩,e2,e1⟩:=bnd e1;obtain ⟨⟨ds',S3⟩,e3,e1⟩:=bnd e1;cases e3;cases e1;obtain ⟨d',e4,h⟩:=bnd h;cases e4;obtain ⟨l,e5,h⟩:=bnd h;split at h
 ·rename_i hk
  cases h;refine d1 L ρ σ x d _ _ e2 k rl λv y ex ey ky hv=>?_;subst ey;obtain ⟨a,vs,rfl,h1,h2⟩:=yg5 ky hv e5;unfold qfq at hk;cases ei:qeg l with
  |some ns=>
   rw[ei]at hk;have h64:ns.length<64:=by simpa using hk
   have:=qcj ei;subst this;cases qbw h2 ei;refine .inl ⟨a,ns,rfl,h1,by omega,λb nb=>.inl ⟨b,uniq ns,rfl,bB,ž (uniq_len ns) h64,λc ns' nc pm up=>?_⟩⟩;have ex1:Ex y (y.up b (SetO X.prog X.w b (uniq ns))):=Ex.up nb;have ky1:=ky.up (o:=SetO X.prog X.w b (uniq ns)) nb;rw[<-yjd pm up]at q;refine q _ ((y.up b (SetO X.prog X.w b (uniq ns))).up c (.lst (ns'.map V.int))) ((ex.trans ex1).trans (Ex.up nc)) rfl (ky1.up nc) (cT ky1 nc (ygj ns')).2
  |none=>
   rw[ei]at hk;cases et:dO l with
   |none=>rw[et]at hk;cases hk
   |some ks=>
    rw[et]at hk;simp only[Å,decide_eq_true_eq]at hk;have hl:=yfm et;subst hl;obtain ⟨ts,rfl,e7,hT⟩:=tl_of h2;have hP:∀d∈ks.map bb,isTI d:=λd hd=>by obtain ⟨i,_,rfl⟩:=Ō.mp hd;exact ⟨i,rfl⟩
    have hm:=qga qej hP;have hnd:=ycd qej hP;obtain ⟨kk,ek⟩:∃kk:List (List Int),aZ (ks.map bb)=kk.map bb:=by
     have:∀l:List Â,(∀d∈l,isTI d)->∃ms:List (List Int),l=ms.map bb:=λl=>by
      induction l with
      |nil=>exact λ_=>⟨[],rfl⟩
      |cons d l ih=>
       intro h;obtain ⟨ms,rfl⟩:=ih λx hx=>h x (Ê _ hx);obtain ⟨i,rfl⟩:=h d Ì;exact ⟨i::ms,rfl⟩
     exact this _ λd hd=>hP d ((hm d).mp hd)
    have mk:∀k,k∈kk↔k∈ks:=λk=>by
     have:=hm (bb k);rw[ek,mem_map,mem_map]at this;exact ⟨λh=>by obtain ⟨y,hy,e⟩:=this.mp ⟨k,h,rfl⟩;rw[<-yet e];exact hy,λh=>by obtain ⟨y,hy,e⟩:=this.mpr ⟨k,h,rfl⟩;rw[<-yet e];exact hy⟩
    have nk:kk.Nodup:=List.Pairwise.of_map bb (λa b (h:bb a≠bb b) (e:a=b)=>h (by rw[e])) (by rw[<-ek];exact hnd);refine .inr ⟨a,ts,kk,rfl,h1,λt ht=>SqT.same bJ (hT t ht),by rw[ek]at hk;simpa using hk.2,λt ht=>(mk _).mpr (by rw[<-e7];exact List.mem_map_of_mem (f:=(·.2)) ht),λb us nb u1 u2 u3=>?_⟩;have ex1:Ex y (y.up b (qf3 X.prog X.w b us)):=Ex.up nb;have ky1:=ky.up (o:=qf3 X.prog X.w b us) nb;have pu:(us.map (·.2)).Perm kk:=(List.perm_ext_iff_of_nodup u2 nk).mpr λk=>by
     rw[mk];constructor
     ·intro h;obtain ⟨u,hu,rfl⟩:=Ō.mp h;rw[<-e7];exact List.mem_map_of_mem (f:=(·.2)) (u1 u hu)
     ·intro h;rw[<-e7]at h;obtain ⟨t,ht,rfl⟩:=Ō.mp h;exact u3 t ht
    have pd:(us.map dP).Perm (aZ (ks.map bb)):=by
     rw[ek,show us.map dP=(us.map (·.2)).map bb by rw[ŷ];rfl];exact pu.map _
    have hT':∀t∈us,SqT X.K ((y.up b (qf3 X.prog X.w b us)).hp L) t.1 (t.2.map V.int):=λt ht=>SqT.same ex1.same (hT t (u1 t ht));have hokn:fw (aZ (ks.map bb))=true:=qfv hk.1 (λx hx=>(hm x).mp hx) (yhp qej);have hok:cS (us.map dP)=true:=by
     unfold cS;have l1:=pd.length_eq;have l2:=hk.2;simp only[Å,decide_eq_true_eq];exact ⟨qfv hokn (λx hx=>pd.mem_iff.mp hx) (by omega),by omega⟩
    refine .inr ⟨b,us,rfl,bB,λt ht=>SqT.same bJ (hT' t ht),hok,λc ts' nc m1 m2=>?_⟩;rw[ye0 hokn pd]at m2;rw[<-m2]at q;exact q _ ((y.up b (qf3 X.prog X.w b us)).up c (.lst (cg ts'))) ((ex.trans ex1).trans (Ex.up nc)) rfl (ky1.up nc) (cT ky1 nc (tl_at λt ht=>hT' t (m1 t ht))).2
 ·cases h
end
end Dp
namespace Dp
open PySem PySem.Spec L2 PyProof.Rows Mx PySem.W PyProof.Rows.KTD
section
variable {X:Cx}{e a b o:Expr}{es:List Expr}{f g h:FE}{fa:FA}{p pos p2 pos2 apos:Pos}{tg:Expr}
noncomputable def qee:FF:=λds S=>(cq ds).bind λd=>(lsD d S).bind λl=>(qeg l).bind λns=>if ns.length<64 then some (.d (.int (aZ l).length),S) else none
theorem qio(hr:Room n X.A)(hc:X.calm=true)(g1:Gl X "set")(m1:X.mg "set"=none)(g2:Gl X "len")(m2:X.mg "len"=none)(hs:bA e=true)(h:DE X e f):DE X (.Call (.Name "len" p) [.Call (.Name "set" p2) [e] [] pos2] [] pos) (č qee (Ñ f Î)):=by
 obtain ⟨t,p1,d1⟩:=h;refine ⟨_,qja g1 m1 g2 m2 boot_len (by decide) (by decide) (yfp hc) yge p1 hs,λL ρ σ x r S' Q h k rl q=>?_⟩;obtain ⟨⟨ds,S1⟩,e1,h⟩:=bnd h;obtain ⟨⟨d,S2⟩,e2,e1⟩:=bnd e1;obtain ⟨⟨ds',S3⟩,e3,e1⟩:=bnd e1;cases e3;cases e1;obtain ⟨d',e4,h⟩:=bnd h;cases e4;obtain ⟨l,e5,h⟩:=bnd h;obtain ⟨ns,ei,h⟩:=bnd h;split at h
 ·rename_i h64
  cases h;refine d1 L ρ σ x d _ _ e2 k rl λv y ex ey ky hv=>?_;subst ey;obtain ⟨a,vs,rfl,h1,h2⟩:=yg5 ky hv e5;have:=qcj ei;subst this;cases qbw h2 ei;obtain ⟨ms,e6,pm⟩:=ygy ns;refine ⟨a,ns,rfl,h1,by omega,λb nb=>⟨b,uniq ns,rfl,bB,?_⟩⟩;refine q _ (y.up b (SetO X.prog X.w b (uniq ns))) (ex.trans (Ex.up nb)) rfl (ky.up nb) ?_;rw[e6,Ð,pm.length_eq];exact .int _
 ·cases h
noncomputable def dR:FF:=λds S=>(cq ds).bind λd=>(lsD d S).bind λl=>if cS l=true then some (.d (.list (b7 ci l)),S) else none
theorem bi_sort:Bi X "sorted" dR:=⟨_,ybq,.inl ⟨_,rfl⟩,_,yho,λL x vs ds r S' Q k hv e q=>by
 obtain ⟨d,e1,e⟩:=bnd e;obtain ⟨l,e2,e⟩:=bnd e;split at e
 ·rename_i z
  cases e;obtain ⟨v,rfl,hw⟩:=cH hv e1;obtain ⟨a,ws,rfl,h1,h2⟩:=yg5 k hw e2;exact ⟨a,ws,l,rfl,h1,h2.same bJ,z,λb ws' nb pr=>q _ (x.up b _) (Ex.up nb) rfl (k.up nb) (cT k nb (pr.at_ h2)).2⟩
 ·cases e⟩
noncomputable abbrev Tab:=List (Str×List Â)
noncomputable def eV:Â->V
 |.int i=>.int i
 |.str z=>.str z
 |.bool b=>.bl b
 |_=>.non
noncomputable def flB:Â->Bool
 |.int _|.str _|.bool _|.none=>true
 |_=>false
noncomputable def tabB(D:Tab):Bool:=D.all λe=>e.2.all flB
noncomputable def cU(D:Tab):List (Str×List V):=D.map λe=>(e.1,e.2.map eV)
theorem fl_at{K:Kc}{H:Hp}{d:Â}(h:flB d=true):Dt K H (eV d) d:=by
 cases d<;>first|cases h|skip
 ·exact .non
 ·exact .bl _
 ·exact .int _
 ·exact .str _
theorem yjc{K:Kc}{H:Hp}:∀{ds:List Â},ds.all flB=true->DtA K H (ds.map eV) ds
 |[],_=>.nil
 |d::ds,h=>by
  rw[Ĩ,Å]at h;exact .cons (fl_at h.1) (yjc h.2)
noncomputable def TabOk(X:Cx)(x:Str)(D:Tab):Prop:=tabB D=true/\∃a,X.mg x=some (.ref a)/\TabK X.K a (cU D)
theorem ycj:∀{D:Tab},datumAt k (cU D)=(D.lookup k).map (·.map eV)
 |[]=>rfl
 | (x,d)::D=>by
  show (if decide (k=x)=true then some (d.map eV) else datumAt k (cU D))=_;rw[Ĕ,ycj (D:=D)];by_cases z:k=x
  ·subst z;simp
  ·rw[show (k == x)=false from by simpa using z];simp[z]
theorem tabB_mem(h:tabB D=true){k:Str}{ds:List Â}(e:D.lookup k=some ds):ds.all flB=true:=Û.mp h _ (ĝ e)
noncomputable def em(D:Tab)(f:FE):FE:=λρ S=>(f ρ S).bind λp=>(qe2 p.1).bind λk=>(D.lookup k).map λds=>(.d (.tuple ds),p.2)
theorem qg6{K:Kc}{L:Addr->Prop}{x:Wd}{v:V}{d:DV}{z:Str}(h:Hv K L x v d)(e:qe2 d=some z):v=.str z:=by
 unfold qe2 at e;split at e
 ·cases e;cases h;rfl
 ·cases e
theorem de_tab{x:Str}{D:Tab}(hg:Gl X x)(hd:(x == ("__debug__" : Str))=false)(hT:TabOk X x D)(hs:qbk b=true)(h:DE X b f):DE X (.Subscript (.Name x p) b pos) (em D f):=by
 obtain ⟨t,p1,d1⟩:=h;obtain ⟨hB,a,hm,T⟩:=hT;refine ⟨_,pe_ix (ix_tab (D:=cU D)) (qeo (v:=.ref a) hg hm rfl hd) p1 (yd9 hs),λL ρ σ x r S' Q h k rl q=>?_⟩;obtain ⟨⟨r1,S1⟩,e1,h⟩:=bnd h;obtain ⟨k',e2,h⟩:=bnd h;obtain ⟨ds,e3,h⟩:=Á.mp h;cases h;refine d1 L ρ σ x r1 _ _ e1 k rl λv y ex ey ky hv=>?_;cases qg6 hv e2;refine ⟨a,k',ds.map eV,rfl,rfl,T,by rw[ycj,e3];rfl,λb hb=>q _ y ex ey ky (.tup (hb _) (yjc (tabB_mem hB e3)))⟩
theorem yh3:∀{D:Tab},inKeys k (cU D)=(D.lookup k).isSome:=λ{D}=>by rw[<-isSome_datumAt,ycj,ő]
noncomputable def inTF(D:Tab)(f:FE):FE:=λρ S=>(f ρ S).bind λp=>(qe2 p.1).map λk=>(.d (.bool (D.lookup k).isSome),p.2)
theorem de_inT{x:Str}{D:Tab}(hg:Gl X x)(hd:(x == ("__debug__" : Str))=false)(hT:TabOk X x D)(h:DE X a f):DE X (.Compare a [.In] [.Name x p] pos) (inTF D f)/\DT X (.Compare a [.In] [.Name x p] pos) (ò (inTF D f)):=by
 obtain ⟨t,p1,d1⟩:=h;obtain ⟨hB,ad,hm,T⟩:=hT;have p2:PE X (.Name x p) (tC (.ref ad)):=qeo (v:=.ref ad) hg hm rfl hd;have d:Dn X.kc (tOp (rInTab X.K (cU D)) t (tC (.ref ad))) (inTF D f):=λL ρ σ x r S' Q h k rl q=>by
  obtain ⟨⟨r1,S1⟩,e1,h⟩:=bnd h;obtain ⟨k',e2,h⟩:=Á.mp h;cases h;refine d1 L ρ σ x r1 _ _ e1 k rl λv y ex ey ky hv=>?_;cases qg6 hv e2;refine ⟨ad,k',rfl,rfl,T,?_⟩;rw[yh3];exact q _ y ex ey ky (.bl _)
 exact ⟨⟨_,yjw yhc p1 p2 rfl,d⟩,⟨_,qj8 yhc p1 p2 rfl,qdy d⟩⟩
noncomputable def e9:List Â->Option (List Str)
 |[]=>some []
 |.str z::r=>(e9 r).map (z :: ·)
 |_=>none
noncomputable def TupN(K:Þ):Prop:=∀p o,K.lookup p=some o->o.cls=.type "tuple"->o.dict=none
noncomputable def cntF(D:Tab)(f g:FE):FE:=λρ S=>(f ρ S).bind λp=>(qe2 p.1).bind λk=>(D.lookup k).bind λds=>(e9 ds).bind λns=>(g ρ p.2).bind λq=>(qe2 q.1).map λz=>(.d (.int (ns.countP (· == z):Nat)),q.2)
theorem qkk:∀{ds:List Â}{ns:List Str},e9 ds=some ns->ds.map eV=ns.map V.str
 |[],_,h=>by cases h;rfl
 |d::ds,_,h=>by
  cases d with
  |str i=>
   obtain ⟨ns,e,rfl⟩:=Á.mp h;rw[þ,qkk e];rfl
  |_=>cases h
theorem de_cnt{x:Str}{D:Tab}(tn:TupN X.K)(hg:Gl X x)(hd:(x == ("__debug__" : Str))=false)(hT:TabOk X x D)(hs:qbk b=true)(h:DE X b f)(h2:DE X e g)(hc:CallOk X (.Subscript (.Name x p) b p2) [e] apos pos) :
  DE X (.Call (.Attribute (.Subscript (.Name x p) b p2) "count" apos) [e] [] pos) (cntF D f g):=by
 obtain ⟨t,p1,d1⟩:=h;obtain ⟨u,p3,d2⟩:=h2;obtain ⟨hB,a,hm,T⟩:=hT;have hst:=hc.star;rw[Ĩ,Å]at hst;refine ⟨_,qki PySem.F.plainAttrs_tuple PySem.F.slot_tuple_count PySem.F.type_tuple_count yh8 (pe_ix (ix_tab (D:=cU D)) (qeo (v:=.ref a) hg hm rfl hd) p1 (yd9 hs)) (ybe p3 ydk (bM hst.1)) (ybj hc.plain) hc.form hc.line (bM hst.1) rfl,λL ρ σ x r S' Q h k rl q=>?_⟩;obtain ⟨⟨r1,S1⟩,e1,h⟩:=bnd h;obtain ⟨k',e2,h⟩:=bnd h;obtain ⟨ds,e3,h⟩:=bnd h;obtain ⟨ns,e4,h⟩:=bnd h;obtain ⟨⟨r5,S5⟩,e5,h⟩:=bnd h;obtain ⟨z,e6,h⟩:=Á.mp h;cases h;refine d1 L ρ σ x r1 _ _ e1 k rl λv y ex ey ky hv=>?_;subst ey;cases qg6 hv e2;refine ⟨a,k',ds.map eV,rfl,rfl,T,by rw[ycj,e3];rfl,λb hb=>⟨?_,d2 L ρ σ y r5 _ _ e5 ky (rl.ex ex) λw z ez eS kz hz=>?_⟩⟩
 ·rcases hb (λ_=>none) with q|⟨o,its,n,hk,hcl,_⟩
  ·rcases q with q|⟨_,q⟩<;>cases q
  ·exact .inr (.inl ⟨rfl,o,hk,hcl,tn b o hk hcl⟩)
 ·cases qg6 hz e6;exact ⟨b,ns,_,rfl,rfl,by rw[<-qkk e4];exact hb _,q _ z (ex.trans ez) eS kz (.int _)⟩
noncomputable def tupOf:DV->Option (List Â)
 |.d (.tuple ds)=>some ds
 |_=>none
theorem tup_ok{K:Kc}{L:Addr->Prop}{x:Wd}{v:V}{d:DV}{ds:List Â}(h:Hv K L x v d)(e:tupOf d=some ds):∃a vs,v=.ref a/\SqT K.K (x.hp L) a vs/\DtA K (x.hp L) vs ds:=by
 unfold tupOf at e;split at e
 ·cases e;cases h with|tup a b=>exact ⟨_,_,rfl,a,b⟩
 ·cases e
noncomputable def enu1F(fa:FA):FA:=λρ S=>(fa ρ S).bind λp=>(cq p.1).bind λd=>(tupOf d).map λds=>(aY 0 ds,p.2)
theorem di_enu1{x:Str}{tp:Pos}(hg:Gl X "enumerate")(hm:X.mg "enumerate"=none)(h:DA X [a] fa)(hs:bA a=true):DI X (.Name x tp) (.Call (.Name "enumerate" p) [a] [] pos) (enu1F fa):=by
 obtain ⟨t,p1,d1⟩:=h;refine ⟨_,pi_num hg hm p1 (bM hs),λL ρ σ x es S' R h k rl q=>?_⟩;obtain ⟨⟨dd,S1⟩,e1,h⟩:=bnd h;obtain ⟨d,e2,h⟩:=bnd h;obtain ⟨ds,e3,h⟩:=Á.mp h;cases h;refine d1 L ρ σ x dd _ _ e1 k rl λvs y ex ey ky hv=>?_;obtain ⟨v,rfl,hw⟩:=cH hv e2;obtain ⟨l,ws,rfl,g1,g2⟩:=tup_ok hw e3;refine ⟨l,ws,rfl,SqT.same bJ g1,q _ y ex ey ky λL2 z hl ez kz=>?_⟩;have s:=ez.sameL hl;have h2:SqT X.K z.H l ws:=SqT.same bJ (SqT.same s g1);refine ⟨⟨_,h2,by rw[qev,g2.length];exact Ò _⟩,λi e hi=>?_⟩;obtain ⟨d',hd,rfl⟩:=qey hi;obtain ⟨u,hu,au⟩:=ycr g2 hd;refine ⟨⟨_,u,h2,hu⟩,λv' H' yl=>?_⟩;obtain ⟨p',y',hp,rfl,rfl,hyy⟩:=yl;have:=hyy _ h2;rw[hu]at this;cases this;rw[Nat.zero_add];exact yf9 kz hp (.int _) (au.same s)
noncomputable def dzN(ks:List Â)(ys:List Â):Nat->List (Â×DV)
 |0=>[]
 |i+1=>ay (dzN ks ys i) (ks[i]?.getD (.int 0)) (.d (ys[i]?.getD .none))
noncomputable def fy:List Â->Option (List Key)
 |[]=>some []
 |k::r=>(fA k).bind λq=>(fy r).map (q :: ·)
theorem yhd{K:Kc}{H:Hp}:∀{ds:List Â}{vs:List V}{qs:List Key},DtA K H vs ds->fy ds=some qs->vs=qs.map kV/\ds=qs.map kD
 |[],_,_,.nil,h=>by cases h;exact ⟨rfl,rfl⟩
 |d::ds,_,_,.cons a r,h=>by
  obtain ⟨q,e1,h⟩:=bnd h;obtain ⟨qs,e2,rfl⟩:=Á.mp h;obtain ⟨h1,h2⟩:=yhd r e2;cases ygg e1;cases kD_at a;exact ⟨by rw[h1];rfl,by rw[h2];rfl⟩
noncomputable def fF(fa:FA):FE:=λρ S=>(fa ρ S).bind λp=>(qjp p.1).bind λd=>(cA d.1 p.2).bind λs=>(cA d.2 p.2).bind λt=>(fy s.2).bind λ_=>if t.2.length<=most then some (.r p.2.length,p.2++[.dk (dzN s.2 t.2 (min s.2.length t.2.length))]) else none
theorem dz_at{K:Kc}{L:Addr->Prop}{x:Wd}{qs:List Key}{ys:List Â}{vs:List V}(a:DtA K (x.hp L) vs ys):∀i,i<=ys.length->PsAt K L x (cC (dzip qs vs i)) (dzN (qs.map kD) ys i)
 |0,_=>⟨rfl,.nil⟩
 |i+1,h=>by
  unfold dzip dzN;rw[yg1];have e:kD (qs[i]?.getD (.inl 0))=(qs.map kD)[i]?.getD (.int 0):=by
   rw[Ĉ];cases qs[i]?<;>rfl
  rw[e];obtain ⟨v,h1,h2⟩:=ycr a (Í (l:=ys) (i:=i) (by omega));rw[h1,Í (l:=ys) (i:=i) (by omega)];exact (dz_at a i (by omega)).put h2
theorem de_dzip(hc:X.calm=true)(g1:Gl X "dict")(m1:X.mg "dict"=none)(g2:Gl X "zip")(m2:X.mg "zip"=none)(hs:([a,b]:List Expr).all bA=true)(h:DA X [a,b] fa):DE X (.Call (.Name "dict" p) [.Call (.Name "zip" p2) [a,b] [] pos2] [] pos) (fF fa):=by
 obtain ⟨t,p1,d1⟩:=h;have hs':=hs;rw[Ĩ,Å]at hs';refine ⟨_,yhk hc g1 m1 g2 m2 p1 (bM hs'.1) (dF hs'.2),λL ρ σ x r S' Q h k rl q=>?_⟩;obtain ⟨⟨ds,S1⟩,e1,h⟩:=bnd h;obtain ⟨d,e2,h⟩:=bnd h;obtain ⟨⟨t1,ks⟩,e3,h⟩:=bnd h;obtain ⟨⟨t2,ys⟩,e4,h⟩:=bnd h;obtain ⟨qs,e5,h⟩:=bnd h;split at h
 ·rename_i z
  cases h;refine d1 L ρ σ x ds _ _ e1 k rl λvs y ex ey ky hv=>?_;subst ey;obtain ⟨v,u,rfl,hw1,hw2⟩:=ygo hv e2;obtain ⟨a1,vs1,rfl,g1,b1⟩:=qb1 ky hw1 e3;obtain ⟨a2,vs2,rfl,g2,b2⟩:=qb1 ky hw2 e4;obtain ⟨h1,h2⟩:=yhd b1 e5;subst h1 h2;have sq:∀{t:Bool}{a:Addr}{vs:List V},SqB X.kc y.H a vs t->Sq X.K t y.H a vs:=λ{t a vs} g=>by cases t<;>exact g
  refine ⟨t1,t2,a1,a2,qs,vs2,rfl,sq g1,sq g2,eY (by rw[b2.length];exact z),λc nc=>?_⟩;dsimp only at q;rw[show (qs.map kD).length=qs.length from Ð _,<-b2.length]at q;have pa:=dz_at b2 (qs:=qs) (min qs.length vs2.length) (by rw[<-b2.length];exact min_le_right _ _);have ex1:=Ex.new (o:=.dk (dzN (qs.map kD) ys (min qs.length vs2.length))) (u:=.dK (dzip qs vs2 (min qs.length vs2.length))) ky nc;refine q _ (y.new c _ _) (ex.trans ex1) rfl (ky.new nc (qi4 (t:=false) (.k bB) (pa.imp λv e q=>q.ex ex1))) (yb8 (e:=.d .none) ky)
 ·cases h
end
end Dp
namespace L2
open PySem PySem.Spec PyProof.Rows
section
variable {P:Ü}{w:ï}{Ky:Type} [DecidableEq Ky]
theorem ydr(knd:HeapKind P w Ky)(d a:Addr)(hd:(d == Ħ)=false)(dflt:Æ):MeetsIn P w (Ĵ.«dict.setdefault» ⟨[.ref d,.ref a,dflt],[]⟩) (λA R s=>knd.room A.in1/\∃k xs,knd.is s.heap k a/\s.heap.DictOfH knd d xs/\xs.length<=Õ/\
   (∀p,atKey xs k=some p->R (.ok (.ret p.2)) { s with toks:=s.toks+knd.draws k })/\
   (atKey xs k=none->∀h',h'.DictOfH knd d (xs++[(k,a,dflt)])->ü d s.heap h'->R (.ok (.ret dflt)) { s with heap:=h',toks:=s.toks+knd.draws k })):=
 .of_wp λA R s ⟨hu,k,xs,hkey,hm,hz,h1,h2⟩=>by
  unfold Ĵ.«dict.setdefault»;refine À ?_;unfold Builtin.Dict.keyAndDefault;refine À (wpAny_notOrdered_dict hm.typeIs ?_);show Ë _ _ (pure (d,ã a,some dflt)) _ _ s;refine Ã ?_;show Ë _ _ (if (d == Ħ)=true then _ else (dictSetDefault d (.ref a) dflt >>= _)) _ _ s;rw[if_neg (by rw[hd];exact ú)];obtain ⟨o,es,ep,ho,hc,hdt,he,his,hn⟩:=hm;refine À ?_;unfold dictSetDefault
  try with_reducible refine î ?_
  refine À (knd.pyHash hu hkey ?_);refine À (wpAny_dictFind_heap (s:={ s with toks:=s.toks+knd.draws k }) hu hkey ho hdt he his hn ?_ ?_)
  ·intro hno;refine À (Ũ (À (wpAny_updateDictKeys (hz:=by have e:=size_of_entries he;rw[e];exact hz) (s:={ s with toks:=s.toks+knd.draws k }) ho hdt (Ã (Ã ⟨dflt,rfl,h2 (atKey_none_of_get hno) _ ⟨_,_,ep+1,Ő _ ho (Obj.isFreed_of_dict (Obj.data_mapDictKeys hdt _)),
    hc.mapDictKeys _,Obj.data_mapDictKeys hdt _,?_,?_,?_⟩ (ę ..)⟩)))))
   ·simp[he,entryOfKey]
   ·intro x hx;rcases ŀ.mp hx with hx|hx
    ·exact knd.keeps (his x hx) ho hdt (ę ..)
    ·simp only[ê]at hx;subst hx;exact knd.keeps hkey ho hdt (ę ..)
   ·rw[ň,nodup_append];refine ⟨hn,by simp,λx hx y hy z=>?_⟩;simp only[þ,map_nil,ê]at hy;subst hy z;obtain ⟨q,hq,e⟩:=Ō.mp hx;obtain ⟨j,hj⟩:=Κ hq;exact hno j q.2 (by rw[hj,<-e])
  ·intro j p hj;have hes:es[j]?=some (entryOfKey knd (k,p)):=by rw[entry_at he j,hj];rfl
   refine À (ac (s:={ s with toks:=s.toks+knd.draws k }) ho hdt ?_);rw[hes];exact À (Ũ (Ã (Ã ⟨p.2,rfl,h1 p (atKey_of_get hn hj)⟩)))
end
end L2
namespace Dp
open PySem PySem.Spec L2 PyProof.Rows Mx PySem.W
section
variable {X:Cx}{e a b o:Expr}{es:List Expr}{f g h:FE}{fa:FA}{p pos p2 pos2 apos:Pos}{tg:Expr}
noncomputable def de(t:Bool):FE:=λ_ S=>some (.r S.length,S++[cw t []])
theorem de_dicO:DE X (.Dict [] [] pos) (de t):=by
 cases t with
 |false=>exact ⟨_,pe_dnewK,λL ρ σ x r S' Q h k rl q=>by
   cases h;intro c nc;exact q _ (x.new c (.dk []) (.dK [])) (Ex.new k nc) rfl (k.new nc ⟨[],bB,rfl,.nil⟩) (yb8 (e:=.d .none) k)⟩
 |true=>exact ⟨_,yiv,λL ρ σ x r S' Q h k rl q=>by
   cases h;intro c nc;exact q _ (x.new c (.dt []) (DT_ X.prog X.w c [])) (Ex.new k nc) rfl (k.new nc ⟨[],bB,rfl,(λe he=>nomatch he),.nil⟩) (yb8 (e:=.d .none) k)⟩
theorem adoptO{K:Kc}{L:Addr->Prop}{y w:Wd}{D:Addr}{od:OD}{u:HO}(nL:¬ L D)(nD:y.H D=none)(ew:Ex y w)(kw:Ok K (λb=>L b\/b=D) w)(ho:(∀v e,Hv K (λb=>L b\/b=D) w v e->Hv K L ⟨w.φ++[D],w.S++[od],upd w.H D u⟩ v e)->Ho K L ⟨w.φ++[D],w.S++[od],upd w.H D u⟩ D od)(hl:od.isDead=false) :
  Ex y ⟨w.φ++[D],w.S++[od],upd w.H D u⟩/\Ok K L ⟨w.φ++[D],w.S++[od],upd w.H D u⟩/\Hv K L ⟨w.φ++[D],w.S++[od],upd w.H D u⟩ (.ref D) (.r w.S.length):=by
 have hφ:∀a∈w.φ,a≠D:=λa ha z=>kw.dis a ha (.inr z);have lvo:∀b,Wd.Lv ⟨w.φ++[D],w.S++[od],upd w.H D u⟩ b->w.Lv b\/b=D:=by
  rintro b ⟨j,q,g1,g2,g3⟩;rcases cP (show (w.φ++[D])[j]?=some b from g1) with g1|⟨_,rfl⟩
  ·rcases cP (show (w.S++[od])[j]?=some q from g2) with g2|⟨z,_⟩
   ·exact .inl ⟨j,q,g1,g2,g3⟩
   ·have:=(É.mp g1).1;rw[kw.len]at this;omega
  ·exact .inr rfl
 have sm:Same (w.hp λb=>L b\/b=D) (Wd.hp L ⟨w.φ++[D],w.S++[od],upd w.H D u⟩):=yas λb v n e=>by
  have nb:b≠D:=λz=>n (.inl (.inr z));exact ⟨by show upd w.H D u b=some v;rw[Δ nb];exact e,λz=>n (z.elim (λz=>.inl (.inl z)) λz=>(lvo b z).elim .inr λz=>absurd z nb)⟩
 have hv:∀v e,Hv K (λb=>L b\/b=D) w v e->Hv K L ⟨w.φ++[D],w.S++[od],upd w.H D u⟩ v e:=λv e q=>by
  cases e with
  |d c=>exact Dt.same sm q
  |r i=>obtain ⟨a,h1,h2⟩:=q;exact ⟨a,ybd h1,h2⟩
 refine ⟨⟨λi a e=>ybd (ew.pre i a e),λb v n e=>?_,λb h=>?_,λi a h g=>(cP (show (w.φ++[D])[i]?=some a from h)).elim (λh=>ew.fr i a h g) λh=>by rw[h.2];exact nD⟩,⟨?_,?_,λa ha z=>?_,λb z=>?_,λi o a h1 h2=>?_⟩,D,?_,rfl⟩
 ·have nb:b≠D:=λz=>by rw[z,nD]at e;cases e
  exact ⟨by show upd w.H D u b=some v;rw[Δ nb];exact (ew.kp b v n e).1,λz=>(lvo b z).elim (ew.kp b v n e).2 λz=>nb z⟩
 ·show upd w.H D u b≠none;by_cases z:b=D
  ·rw[z,bB];simp
  ·rw[Δ z];exact ew.al b h
 ·show (w.φ++[D]).length=(w.S++[od]).length;rw[Ó,Ó,kw.len];rfl
 ·show (w.φ++[D]).Nodup;rw[nodup_append];exact ⟨kw.nd,by simp,λa ha b hb z=>by rw[ê.mp hb]at z;exact hφ a ha z⟩
 ·rcases ŀ.mp ha with ha|ha
  ·exact kw.dis a ha (.inl z)
  ·rw[ê.mp ha]at z;exact nL z
 ·show upd w.H D u b≠none;by_cases zb:b=D
  ·rw[zb,bB];simp
  ·rw[Δ zb];rcases z with z|z
   ·exact kw.liv b (.inl (.inl z))
   ·rcases ŀ.mp z with z|z
    ·exact kw.liv b (.inr z)
    ·exact absurd (ê.mp z) zb
 ·rcases cP (show (w.S++[od])[i]?=some o from h1) with h1|⟨zi,rfl⟩
  ·rcases cP (show (w.φ++[D])[i]?=some a from h2) with h2|⟨z,_⟩
   ·refine (kw.obj i o a h1 h2).imp (λv e=>?_) sm hv;show upd w.H D u a=some v;rw[Δ (hφ a (ć h2))];exact e
   ·have:=(É.mp h1).1;rw[<-kw.len]at this;omega
  ·rcases cP (show (w.φ++[D])[i]?=some a from h2) with h2|⟨_,rfl⟩
   ·have:=(É.mp h2).1;rw[kw.len]at this;omega
   ·exact ho hv
 ·show (w.φ++[D])[w.S.length]?=some D;rw[<-kw.len,aH]
noncomputable abbrev FP:=DEnv->OS->Option (List (Â×DV)×OS)
noncomputable def nilP:FP:=λ_ S=>some ([],S)
noncomputable def yei(f g:FE)(fp:FP):FP:=λρ S=>(f ρ S).bind λk=>(qes k.1).bind λkd=>(fA kd).bind λ_=>(g ρ k.2).bind λv=>(fp ρ v.2).map λr=>((kd,v.1)::r.1,r.2)
noncomputable def fx(ps:List (Â×DV)):List (Â×DV):=ps.foldl (λacc e=>ay acc e.1 e.2) []
noncomputable def dicF(fp:FP):FE:=λρ S=>(fp ρ S).bind λp=>if p.1.length<=15 then some (.r p.2.length,p.2++[.dk (fx p.1)]) else none
noncomputable def DnP(K:Kc)(trs:List (TE×TE))(fp:FP):Prop:=∀L ρ σ x r S' (Q:List (V×V)->Hp->Prop),fp ρ x.S=some (r,S')->Ok K L x->Rl K L x σ ρ->(∀(kvs:List (Key×V)) y,Ex x y->y.S=S'->Ok K L y->PsAt K L y (cC kvs) r->Q (kvs.map λkv=>(kV kv.1,kv.2)) y.H)->ygt trs σ x.H Q
noncomputable def DP(X:Cx)(pos:Pos)(ks:List (Option Expr))(vs:List Expr)(fp:FP):Prop:=∃trs,PPs X pos ks vs trs/\DnP X.kc trs fp
theorem dp_nil:DP X pos [] [] nilP:=⟨[],pps_nil,λL ρ σ x r S' Q h k rl q=>by
 cases h;exact q [] x Ex.refl rfl k ⟨rfl,.nil⟩⟩
theorem dp_cons(h1:DE X a f)(h2:DE X b g)(h3:DP X pos ks vs fp):DP X pos (some a::ks) (b::vs) (yei f g fp):=by
 obtain ⟨t,p1,d1⟩:=h1;obtain ⟨u,p2,d2⟩:=h2;obtain ⟨trs,p3,d3⟩:=h3;refine ⟨_,pps_cons p1 p2 p3,λL ρ σ x r S' Q h k rl q=>?_⟩;obtain ⟨⟨k1,S1⟩,e1,h⟩:=bnd h;obtain ⟨kd,e2,h⟩:=bnd h;obtain ⟨qk,e3,h⟩:=bnd h;obtain ⟨⟨v1,S2⟩,e4,h⟩:=bnd h;obtain ⟨⟨rs,S3⟩,e5,h⟩:=Á.mp h;cases h;refine d1 L ρ σ x k1 S1 _ e1 k rl λv y ex ey ky hv=>?_;subst ey;refine d2 L ρ σ y v1 S2 _ e4 ky (rl.ex ex) λw z ez eS kz hw=>?_;subst eS;refine d3 L ρ σ z rs _ _ e5 kz (rl.ex (ex.trans ez)) λkvs y2 ex2 ey2 ky2 hp=>?_;cases k1 with
 |r i=>cases e2
 |d k1=>
  cases e2;cases ygg e3;cases kD_at hv;exact q ((qk,w)::kvs) y2 ((ex.trans ez).trans ex2) ey2 ky2 (hp.cons (hw.ex ex2))
theorem ygv{K:Kc}{L:Addr->Prop}{x:Wd}:∀{kvs acc:List (Key×V)}{ps accD:List (Â×DV)},PsAt K L x (cC kvs) ps->PsAt K L x (cC acc) accD->PsAt K L x (cC (kvs.foldl (λacc kv=>aL acc kv.1 kv.2) acc)) (ps.foldl (λacc e=>ay acc e.1 e.2) accD)
 |[],acc,ps,accD,h,h2=>by
  cases h.nilE;exact h2
 |kv::kvs,acc,ps,accD,h,h2=>by
  obtain ⟨d,ps',rfl,a,t⟩:=PsAt.cases (p:=(kD kv.1,kv.2)) h;rw[List.foldl_cons,List.foldl_cons];refine ygv t ?_;rw[yg1];exact h2.put a
theorem de_dic(h:DP X pos ks vs fp)(hall:ks.all (·.isSome)=true)(hl:ks.length=vs.length)(h0:ks≠[])(h15:ks.length<=15):DE X (.Dict ks vs pos) (dicF fp):=by
 obtain ⟨trs,p1,d1⟩:=h;refine ⟨_,pe_disp p1 hall hl h0 h15,λL ρ σ x r S' Q h k rl q=>?_⟩;obtain ⟨⟨ps,S1⟩,e1,h⟩:=bnd h;split at h
 ·rename_i z
  cases h;intro D nD;have nL:¬ L D:=λz=>k.liv D (.inl z) nD;have k1:=k.more (u:=.dK []) nD;have r1:Rl X.kc (λb=>L b\/b=D) (x.up D (.dK [])) σ ρ:=⟨rl.1,λi e h=>let ⟨v,h1,h2⟩:=rl.2 i e h;⟨v,h1,h2.more nD⟩⟩;refine d1 _ ρ σ (x.up D (.dK [])) ps S1 _ e1 k1 r1 λkvs y ex ey ky hp=>?_;subst ey;have hD:y.H D=some (.dK []):=(ex.kp D _ (λ⟨i,o,g1,_⟩=>k1.dis D (ć g1) (.inr rfl)) bB).1;refine ⟨hD,kvs,rfl,?_,?_⟩
  ·have:=hp.len;rw[cC,Ð]at this;rw[this];exact z
  ·obtain ⟨a1,a2,a3⟩:=adoptO (od:=.dk (fx ps)) (u:=.dK (qdw [] kvs)) nL nD ((Ex.up nD).trans ex) ky (λhv=>qi4 (t:=false) (.k bB) ((ygv (acc:=[]) (accD:=[]) hp ⟨rfl,.nil⟩).imp hv)) rfl;exact q _ _ a1 rfl a2 a3
 ·cases h
noncomputable def eu(f g h:FE):FE:=λρ S=>(f ρ S).bind λp=>(dB p.1 p.2).bind λ_=>(g ρ p.2).bind λk=>(h ρ k.2).bind λv=>(dB p.1 v.2).bind λo=>(qes k.1).bind λkd=>if dC o.2.1 kd=true/\o.2.2.length<most then match aK o.2.2 kd with
 |some d=>some (d,v.2)
 |none=>some (v.1,v.2.set o.1 (cw o.2.1 (ay o.2.2 kd v.1))) else none
noncomputable def rSdf(K:Kc):V->List V->Hp->VK->Prop:=λx vs H Q=>∃a t l kv k v Z,x=.ref a/\vs=[kv,v]/\DicH K Z H a t l/\KeyH K Z H t kv k/\l.length<Õ/\(∀y,br l k=some y->Q y H)/\(br l k=none->∀u,PutH K Z a t (cv l k v) u->Q v (upd H a u))
theorem mt_sdf(hr:Room n X.A):MtM X "dict.setdefault" (rSdf X.kc):=by
 intro pins s σ H x vs v us Q I rx rv h;obtain ⟨a,t,l,kv,k,d,Z,rfl,rfl,g,y,hl,q1,q2⟩:=h;cases g with
 |@k kvs e=>
  cases y with
  |k q=>
   refine qkh pins s σ H (.ref a) [kV q,d] v us Q I rx rv ⟨a,kvs,q,d,rfl,rfl,e,by simpa [cC] using hl,λy hy=>q1 y (by rw[<-qdi];exact hy),λhn=>q2 (by rw[<-qdi];exact hn) _ λH' Z' e' _=>?_⟩;rw[<-yg1];exact .k e'
 |@t es e all=>
  cases y with
  |@t b _ x hz=>
   cases rx;cases rv
   rename_i u us' ru rv'
   cases ru;obtain ⟨r,rfl,rr⟩:=Vals.one rv';obtain ⟨z1,m1,xs,r1,dd1⟩:=qct I e λe he=>(all e he).1;have l1:=Τ r1;have rk:=r1.val k;have ev:=qd8 x.key (es:=es) λe he=>(all e he).1.key;rw[<-ev]at q1 q2;refine call_meetsIn F.slot_dict_setdefault dd1.typeIs F.entry_dict_setdefault (F.args_dict_setdefault_3 _ _ _) (ydr (ybi X.prog X.w) a b m1 r) ⟨qcn hr.units,k,xs,qb3 I x,dd1,by omega,λw' hw=>?_,λhn h' dd' sb=>?_⟩
   ·rw[hw]at rk;cases hv:cj es k with
    |none=>rw[hv]at rk;exact absurd rk (by intro z;cases z)
    |some y=>
     rw[hv]at rk;exact ⟨y,_,I.tok _,rk,q1 y hv⟩
   ·rw[hn]at rk;cases hv:cj es k with
    |some y=>rw[hv]at rk;exact absurd rk (by intro z;cases z)
    |none=>
     have he:∃q,h'.get? a=some q:=let ⟨q,_,_,hq,_⟩:=dd';⟨q,hq⟩;have hp:bV es k b d=es++[(k,b,d)]:=by unfold bV;rw[hv];rfl
     have rel2:KDt (bV es k b d) (xs++[(k,b,r)]):=by rw[hp];exact Paired.snoc r1 ⟨rfl,rfl,rr⟩
     refine ⟨d,_,qcq I (by rw[e];exact į) sb he (qia (by rw[hp,Ó,List.length_singleton];simp[dH]at hl;omega) m1 rel2 dd'),rr,q2 hv _ λH' Z' e' hd=>?_⟩;rw[<-putE_P x.key λe he=>(all e he).1.key];exact .t e' (putE_z (λe he=>(all e he).2) hz hd)
theorem pe_or(h1:PE X e t)(h2:PE X e u):PE X e λσ H Q=>t σ H Q\/u σ H Q:=λpins s σ H Q I hq=>hq.elim (h1 pins s σ H Q I) (h2 pins s σ H Q I)
theorem de_sdf(hr:Room n X.A)(h1:DE X o f)(h2:DE X a g)(h3:DE X b h)(hc:CallOk X o [a,b] apos pos):DE X (.Call (.Attribute o "setdefault" apos) [a,b] [] pos) (eu f g h):=by
 obtain ⟨t,p1,d1⟩:=h1;obtain ⟨u,p2,d2⟩:=h2;obtain ⟨w,p3,d3⟩:=h3;have hs:=hc.star;rw[Ĩ,Å]at hs;have hs2:=hs.2;rw[Ĩ,Å]at hs2;have pa:PA X [a,b] _:=ybe p2 (ybe p3 ydk (bM hs2.1)) (bM hs.1);refine ⟨_,pe_or (qki a9 PySem.F.slot_dict_setdefault PySem.F.type_dict_setdefault (mt_sdf hr) p1 pa (ybj hc.plain) hc.form hc.line (bM hs.1) (dF hs.2))
  (pe_bmT PySem.F.slot_dict_setdefault PySem.F.type_dict_setdefault (mt_sdf hr) p1 pa (ybj hc.plain) hc.form hc.line (bM hs.1) (dF hs.2)),λL ρ σ x r S' Q hh k rl q=>?_⟩
 obtain ⟨⟨r1,S1⟩,e1,hh⟩:=bnd hh;obtain ⟨⟨i0,t0,ps0⟩,e0,hh⟩:=bnd hh;obtain ⟨⟨r2,S2⟩,e2,hh⟩:=bnd hh;obtain ⟨⟨r3,S3⟩,e3,hh⟩:=bnd hh;obtain ⟨⟨i,tb,ps⟩,e4,hh⟩:=bnd hh;obtain ⟨kd,e5,h9⟩:=bnd hh;clear hh;split at h9
 ·rename_i z
  have main:∀v y,Ex x y->y.S=S1->Ok X.kc L y->Hv X.kc L y v r1->yfy u (yfy w tNil) σ y.H λxs H2=>rSdf X.kc v xs H2 Q:=λv y ex ey ky hv=>by
   subst ey;refine d2 L ρ σ y r2 S2 _ e2 ky (rl.ex ex) λv2 y2 ex2 ey2 ky2 hv2=>?_;subst ey2;refine d3 L ρ σ y2 r3 S3 _ e3 ky2 (rl.ex (ex.trans ex2)) λv3 y3 ex3 ey3 ky3 hv3=>?_;subst ey3;obtain ⟨a',l,rfl,g1,g2,g3,g4⟩:=qbz ky3 (hv.ex (ex2.trans ex3)) e4;have e13:=(ex.trans ex2).trans ex3;refine ⟨a',tb,l,v2,kd,v3,_,rfl,rfl,g2,qcv (hv2.ex ex3) e5 z.1,by rw[g3.len];exact qei (γ z.2),λyv hy=>?_,λhn U hU=>?_⟩
   ·rcases g3.val (k:=kd) with ⟨h1,_⟩|⟨v',d',h1,h2,h3⟩
    ·rw[h1]at hy;cases hy
    ·rw[h1]at hy;cases hy;dsimp only at h9;rw[h2]at h9;cases h9;exact q _ y3 e13 rfl ky3 h3
   ·rcases g3.val (k:=kd) with ⟨_,h2⟩|⟨v',d',h1,_⟩
    ·dsimp only at h9;rw[h2]at h9;cases h9;obtain ⟨k1,k2⟩:=yif ky3 g1 g4 g3 hv3 hU;exact q _ _ (e13.trans k1) rfl k2 (hv3.ex k1)
    ·rw[h1]at hn;cases hn
  cases t0 with
  |false=>
   refine .inl (d1 L ρ σ x r1 S1 _ e1 k rl λv y ex ey ky hv=>⟨?_,main v y ex ey ky hv⟩);subst ey;obtain ⟨a',l,rfl,_,g2,_⟩:=qbz ky hv e0;cases g2 with|k e=>exact .inr (.inr (.inl ⟨rfl,.inl ⟨_,e⟩⟩))
  |true=>
   refine .inr (d1 L ρ σ x r1 S1 _ e1 k rl λv y ex ey ky hv=>⟨?_,main v y ex ey ky hv⟩);subst ey;obtain ⟨a',l,rfl,_,g2,_⟩:=qbz ky hv e0;cases g2 with|t e _=>exact ⟨a',_,rfl,e⟩
 ·cases h9
end
end Dp
namespace Dp
open PySem PySem.Spec L2 PyProof.Rows Mx PySem.W
section
variable {X:Cx}
noncomputable def rSortE(K:Kc):List V->Hp->VK->Prop:=λxs H Q=>∃a es,xs=[.ref a]/\H a=some (DT_ K.P K.w a es)/\(∀e∈es,TKey K H e.1 e.2.1)/\cS (es.map (·.1))=true/\∀p ws',H p=none->Prm (es.map λe=>V.ref e.2.1) ws' (es.map (·.1)) (b7 ci (es.map (·.1)))->Q (.ref p) (upd H p (.lst ws'))
theorem es_at{K:Kc}{H:Hp}:∀{es:Es},(∀e∈es,TKey K H e.1 e.2.1)->DtA K H (es.map λe=>V.ref e.2.1) (es.map (·.1))
 |[],_=>.nil
 |e::es,h=>.cons (h e Ì).at_ (es_at λe he=>h e (Ê _ he))
theorem ykb:∀{es:Es}{xs:List (Â×Addr×Æ)},KDt es xs->Vals (es.map λe=>V.ref e.2.1) (xs.map λx=>ã x.2.1)
 |[],_,.nil=>.nil
 |e::es,_,.cons (b:=x) h t=>.cons (show ã x.2.1=ã e.2.1 by rw[h.2.1]) (ykb t)
theorem yhs(hc:X.calm=true):bH X (.builtin "sorted") (rSortE X.kc):=by
 intro pins s σ H xs us Q I r h;obtain ⟨a,es,rfl,hH,hT,hk,q⟩:=h;cases r with
 |cons r rr=>
  cases rr;cases r;obtain ⟨z,hd,xs,rel,o,ds,ep,e1,e2,e3,e4,_⟩:=qct I hH hT;have l0:=Τ rel;have l1:ds.size=xs.length:=by rw[<-ä,e4,Ð]
  have hk':=hk;unfold cS at hk';simp only[Å,decide_eq_true_eq,Ð]at hk';refine qdh (fI (srcE (es:=ds) (ep:=ep) hd) (by simpa using I.ok.hd hc) ⟨o,e1,e2,e3⟩ (qf7 (by omega)) λvs h' tk hvl hP hz kp=>⟨by omega,λs2 hs=>?_⟩);subst hs;have ev:vs=xs.map λx=>ã x.2.1:=by
   refine List.ext_getElem? λi=>?_;by_cases hi:i<vs.length
   ·obtain ⟨en,h1,h2⟩:=hP i vs[i] (Í hi);rw[entry_at e4 i]at h1;obtain ⟨x,hx,rfl⟩:=Á.mp h1;rw[Í hi,h2,Ĉ,hx];rfl
   ·rw[ŝ (by omega),ŝ (by rw[Ð];omega)]
  subst ev;exact qet (s:=s) (h':=h') (tk:=tk) (dr:=s.drawn) I kp (γ hz) (ykb rel) (es_at hT) hk q
noncomputable def fo:FF:=λds S=>(cq ds).bind λd=>(dB d S).bind λo=>if o.2.1=true/\cS (o.2.2.map (·.1))=true then some (.d (.list (b7 ci (o.2.2.map (·.1)))),S) else none
theorem bi_sortE(hc:X.calm=true):Bi X "sorted" fo:=⟨_,ybq,.inl ⟨_,rfl⟩,_,yhs hc,λL x vs ds r S' Q k hv e q=>by
 obtain ⟨d,e1,e⟩:=bnd e;obtain ⟨⟨j,t,ps⟩,e2,e⟩:=bnd e;split at e
 ·rename_i z
  cases e;obtain ⟨v,rfl,hw⟩:=cH hv e1;obtain ⟨a,l,rfl,g1,g2,g3,g4⟩:=qbz k hw e2;obtain ⟨z1,z2⟩:=z;dsimp only at z1;subst z1;cases g2 with
  |@t es eH all=>
   have ek:ps.map (·.1)=es.map (·.1):=by rw[<-g3.ks];simp[dH]
   dsimp only at z2 q;rw[ek]at z2 q;exact ⟨a,es,rfl,eH,λe he=>(all e he).1,z2,λb ws' nb pr=>q _ (x.up b _) (Ex.up nb) rfl (k.up nb) (cT k nb (pr.at_ (es_at λe he=>(all e he).2))).2⟩
 ·cases e⟩
end
end Dp
namespace Dp
open PySem PySem.Spec L2 PyProof.Rows Mx PySem.W
section
variable {X:Cx}{e a b o:Expr}{es:List Expr}{f g h:FE}{fa:FA}{p pos p2 pos2 apos:Pos}{tg:Expr}
noncomputable def getF(f g h:FE):FE:=λρ S=>(f ρ S).bind λp=>(dB p.1 p.2).bind λ_=>(g ρ p.2).bind λk=>(h ρ k.2).bind λv=>(dB p.1 v.2).bind λo=>(qes k.1).bind λkd=>if dC o.2.1 kd=true then some ((aK o.2.2 kd).getD v.1,v.2) else none
noncomputable def rGetH(K:Kc):V->List V->Hp->VK->Prop:=λx vs H Q=>∃a t l kv k v Z,x=.ref a/\vs=[kv,v]/\DicH K Z H a t l/\KeyH K Z H t kv k/\Q ((br l k).getD v) H
theorem yi7(hr:Room n X.A):MtM X "dict.get" (rGetH X.kc):=by
 intro pins s σ H x vs v us Q I rx rv h;obtain ⟨a,t,l,kv,k,d,Z,rfl,rfl,g,y,q⟩:=h;cases rx;cases rv
 rename_i u us' ru rv'
 obtain ⟨r,rfl,rr⟩:=Vals.one rv';cases g with
 |@k kvs e=>
  cases y with
  |k y=>
   rw[<-qdi]at q;obtain ⟨z,hd,vs,rel,dd⟩:=qf6 I.hok (.inl e);exact call_meetsIn F.slot_dict_get dd.typeIs F.entry_dict_get (F.args_dict_get_3 _ _ _) (meets_dict_get_default (bR X.prog X.w) a (yee ru) hd r) ⟨_,dd.mapOf,_,_,I.tok _,(rel.val y).getD rr,q⟩
 |@t es e all=>
  cases y with
  |@t b _ x hz=>
   cases ru;obtain ⟨z1,m1,xs,r1,dd1⟩:=qct I e λe he=>(all e he).1;have ev:=qd8 x.key (es:=es) λe he=>(all e he).1.key;rw[<-ev]at q;exact call_meetsIn F.slot_dict_get dd1.typeIs F.entry_dict_get (F.args_dict_get_3 _ _ _) (meetsH_dict_get_default (ybi X.prog X.w) a b m1 r) ⟨qcn hr.units,k,xs,qb3 I x,dd1,_,_,I.tok _,(r1.val k).getD rr,q⟩
theorem de_get(hr:Room n X.A)(h1:DE X o f)(h2:DE X a g)(h3:DE X b h)(hc:CallOk X o [a,b] apos pos):DE X (.Call (.Attribute o "get" apos) [a,b] [] pos) (getF f g h):=by
 obtain ⟨t,p1,d1⟩:=h1;obtain ⟨u,p2,d2⟩:=h2;obtain ⟨w,p3,d3⟩:=h3;have hs:=hc.star;rw[Ĩ,Å]at hs;have hs2:=hs.2;rw[Ĩ,Å]at hs2;have pa:PA X [a,b] _:=ybe p2 (ybe p3 ydk (bM hs2.1)) (bM hs.1);refine ⟨_,pe_or (qki a9 PySem.F.slot_dict_get PySem.F.type_dict_get (yi7 hr) p1 pa (ybj hc.plain) hc.form hc.line (bM hs.1) (dF hs.2))
  (pe_bmT PySem.F.slot_dict_get PySem.F.type_dict_get (yi7 hr) p1 pa (ybj hc.plain) hc.form hc.line (bM hs.1) (dF hs.2)),λL ρ σ x r S' Q hh k rl q=>?_⟩
 obtain ⟨⟨r1,S1⟩,e1,hh⟩:=bnd hh;obtain ⟨⟨i0,t0,ps0⟩,e0,hh⟩:=bnd hh;obtain ⟨⟨r2,S2⟩,e2,hh⟩:=bnd hh;obtain ⟨⟨r3,S3⟩,e3,hh⟩:=bnd hh;obtain ⟨⟨i,tb,ps⟩,e4,hh⟩:=bnd hh;obtain ⟨kd,e5,h9⟩:=bnd hh;clear hh;split at h9
 ·rename_i z
  cases h9;have main:∀v y,Ex x y->y.S=S1->Ok X.kc L y->Hv X.kc L y v r1->yfy u (yfy w tNil) σ y.H λxs H2=>rGetH X.kc v xs H2 Q:=λv y ex ey ky hv=>by
   subst ey;refine d2 L ρ σ y r2 S2 _ e2 ky (rl.ex ex) λv2 y2 ex2 ey2 ky2 hv2=>?_;subst ey2;refine d3 L ρ σ y2 r3 S3 _ e3 ky2 (rl.ex (ex.trans ex2)) λv3 y3 ex3 ey3 ky3 hv3=>?_;subst ey3;obtain ⟨a',l,rfl,g1,g2,g3,g4⟩:=qbz ky3 (hv.ex (ex2.trans ex3)) e4;refine ⟨a',tb,l,v2,kd,v3,_,rfl,rfl,g2,qcv (hv2.ex ex3) e5 z,?_⟩;refine q _ y3 ((ex.trans ex2).trans ex3) rfl ky3 ?_;rcases g3.val (k:=kd) with ⟨h1,h2⟩|⟨v',d',h1,h2,h4⟩
   ·rw[h1];show Hv _ _ _ _ ((aK ps kd).getD r3);rw[h2];exact hv3
   ·rw[h1];show Hv _ _ _ _ ((aK ps kd).getD r3);rw[h2];exact h4
  cases t0 with
  |false=>
   refine .inl (d1 L ρ σ x r1 S1 _ e1 k rl λv y ex ey ky hv=>⟨?_,main v y ex ey ky hv⟩);subst ey;obtain ⟨a',l,rfl,_,g2,_⟩:=qbz ky hv e0;cases g2 with|k e=>exact .inr (.inr (.inl ⟨rfl,.inl ⟨_,e⟩⟩))
  |true=>
   refine .inr (d1 L ρ σ x r1 S1 _ e1 k rl λv y ex ey ky hv=>⟨?_,main v y ex ey ky hv⟩);subst ey;obtain ⟨a',l,rfl,_,g2,_⟩:=qbz ky hv e0;cases g2 with|t e _=>exact ⟨a',_,rfl,e⟩
 ·cases h9
end
end Dp
namespace Dp
open PySem PySem.Spec L2 PyProof.Rows Mx PySem.W
section
variable {X:Cx}{a:Expr}{fa:FA}{p pos p2 pos2:Pos}
noncomputable def lrF(fa:FA):FE:=λρ S=>(fa ρ S).bind λp=>(cq p.1).bind λd=>(qek d).bind λj=>if 0<=j/\j<=1000 then some (.d (.list ((õ j.toNat).map λi:Nat=>.int i)),p.2) else none
theorem nats_dt{K:Kc}{H:Hp}(n:Nat):DtA K H (qfp n) ((õ n).map λi:Nat=>û i):=by
 unfold qfp;generalize õ n=l;induction l with
 |nil=>exact .nil
 |cons i l ih=>exact .cons (.int _) ih
theorem de_lrng(hc:X.calm=true)(hgl:Gl X "list")(hml:X.mg "list"=none)(hgr:Gl X "range")(hmr:X.mg "range"=none)(hs:bA a=true)(h:DA X [a] fa):DE X (.Call (.Name "list" p) [.Call (.Name "range" p2) [a] [] pos2] [] pos) (lrF fa):=by
 obtain ⟨t,p1,d1⟩:=h;refine ⟨_,λpins s σ H Q I h=>yfq (I.ok.hd hc) hgl hml hgr hmr p1 (by rw[bM hs];rfl) (by rfl) pins s σ H Q I h,λL ρ σ x r S' Q h k rl q=>?_⟩;obtain ⟨⟨ds,S1⟩,e1,h⟩:=bnd h;obtain ⟨d,e2,h⟩:=bnd h;obtain ⟨j,e3,h⟩:=bnd h;split at h
 ·rename_i z
  cases h;refine d1 L ρ σ x ds S1 _ e1 k rl λvs y ex ey ky hv=>?_;obtain ⟨v,rfl,hw⟩:=cH hv e2;cases qb9 hw e3;refine ⟨j.toNat,by rw[aI z.1],by omega,λl n=>q _ (y.up l _) (ex.trans (Ex.up n)) ey (ky.up n) (cT ky n (nats_dt j.toNat)).2⟩
 ·cases h
end
end Dp
namespace Dp
open PySem L2 PyProof.Rows Mx
structure Bx where
 N:List Str
 sc:Scope
 top:Bool
 own:List (Str×Nat)
noncomputable abbrev Hk:=Bx->(Expr->Option FE)->Expr->Option FE
structure Gb where
 fns:List (Str×FF):=[]
 csts:List (Str×Â):=[]
 flds:List (Str×List Str):=[]
 meths:List (Str×List (Str×FF)):=[]
 clss:List (Str×FF):=[]
 tabs:List (Str×Tab):=[]
 hk:Hk:=λ_ _ _=>none
noncomputable def blN:List Str:=["len","abs","max","min","repr","isinstance","int","bool","str","tuple","list","dict","range","enumerate","sorted","zip","all","any","set","reversed"]
structure SOk(X:Cx)(bx:Bx):Prop where
 N:X.N=bx.N
 sc:X.env.scope=bx.sc
 nd:bx.N.Nodup
 fn:bx.top=true->∀x,X.fn x=true
 calm:X.calm=true
 xe:X.xe=λ_ _=>False
noncomputable def HkOk(h:Hk):Prop:=∀{X:Cx}{n:Nat}{bx:Bx}{E:Expr->Option FE},Room n X.A->(∀x∈blN,X.mg x=none)->TupN X.K->SOk X bx->(∀e f,E e=some f->DE X e f)->∀e f,h bx E e=some f->DE X e f
structure GOk(n:Nat)(X:Cx)(G:Gb):Prop where
 room:Room n X.A
 fns:∀x F,G.fns.lookup x=some F->∃k ps,k<=n/\Has X.prog X.w X.K X.mg X.base k x ps (bj X.kc F)
 csts:∀x d,G.csts.lookup x=some d->∃v u,X.mg x=some u/\RelV v u/\∀H,Dt X.kc H v d
 bl:∀x∈blN,X.mg x=none
 flds:∀x cs,G.flds.lookup x=some cs->FldOk X cs x
 meths:∀x ms,G.meths.lookup x=some ms->qfb X n x ms
 clss:∀x F,G.clss.lookup x=some F->∃C k ps,X.mg x=some (.ref C)/\k+1<=n/\HasI X.prog X.w X.K X.mg X.base C k x ps (bj X.kc F)
 tabs:∀x D,G.tabs.lookup x=some D->TabOk X x D
 tupN:TupN X.K
 hk:HkOk G.hk
structure Cm where
 E:Bx->Expr->Option FE
 O:Bx->Nat->Expr->Option FE
 T:Bx->Expr->Option FT
 I:Bx->Expr->Expr->Option FA
 S:Bx->Stmt->Option FS
noncomputable def visB(k:Option Η):Bool:=decide (k=some .local)||decide (k=some .cell)||decide (k=some .free)
noncomputable def dS(bx:Bx)(x:Str):Option Nat:=if visB (bx.sc.names.lookup x) && !(x == "__debug__") && !(x == "__classdict__") then bx.N.findIdx? (· == x) else none
noncomputable def yij(bx:Bx)(x:Str):Option Nat:=if decide (bx.sc.names.lookup x=some .local)||(bx.top&&decide (bx.sc.names.lookup x=some .cell)) then bx.N.findIdx? (· == x) else none
noncomputable def dX(bx:Bx)(x:Str):Bool:=decide (bx.sc.names.lookup x=some .globalImplicit) && !(x == "__debug__") && !(x == "__name__")
section
variable {X:Cx}{bx:Bx}{x:Str}{i:Nat}{pos:Pos}
theorem idx_at{N:List Str}(h:N.findIdx? (· == x)=some i):N[i]?=some x:=by
 obtain ⟨h1,h2,_⟩:=Β.mp h;rw[Í h1,Ď h2]
theorem slotE_ok(s:SOk X bx)(h:dS bx x=some i):DE X (.Name x pos) (Ä i):=by
 unfold dS at h;split at h
 ·rename_i z
  simp only[Å,Ŕ]at z;have hv:Vis X.env.scope x:=by
   have:=z.1.1;unfold visB at this;simp only[τ,decide_eq_true_eq]at this;rw[s.sc];rcases this with (h|h)|h
   ·exact .inl h
   ·exact .inr (.inl h)
   ·exact .inr (.inr h)
  exact de_var (by rw[s.N];exact idx_at h) hv z.1.2 z.2
 ·cases h
theorem yeh(s:SOk X bx)(h:yij bx x=some i):Wr X i x:=by
 unfold yij at h;split at h
 ·rename_i z
  simp only[τ,Å,decide_eq_true_eq]at z;refine ⟨by rw[s.N];exact s.nd,by rw[s.N];exact idx_at h,?_,?_⟩
  ·rw[s.sc];exact z.elim .inl λz=>.inr z.2
  ·rw[s.sc];exact z.elim .inr λz=>.inl (s.fn z.1 x)
 ·cases h
theorem eU(s:SOk X bx)(h:dX bx x=true):Gl X x/\(x == ("__debug__" : Str))=false/\x≠"__name__":=by
 unfold dX at h;simp only[Å,Ŕ,decide_eq_true_eq,beq_eq_false_iff_ne]at h;exact ⟨by show X.env.scope.names.lookup x=_;rw[s.sc];exact h.1.1,by simpa using h.1.2,h.2⟩
end
noncomputable def cAs(E:Expr->Option FE):List Expr->Option FA
 |[]=>some Î
 |e::es=>if bA e=true then (E e).bind λf=>(cAs E es).map (Ñ f) else none
noncomputable def cBs(S:Stmt->Option FS):List Stmt->Option FS
 |[]=>some ô
 |s::r=>(S s).bind λf=>(cBs S r).map (Ï f)
noncomputable def cTs(T:Expr->Option FT)(an:Bool):List Expr->Option FT
 |[]=>none
 |[a]=>T a
 |a::r=>(T a).bind λf=>(cTs T an r).map λg=>if an=true then ψ f g else orF f g
noncomputable def cVs(E:Expr->Option FE)(an:Bool):List Expr->Option FE
 |[]=>none
 |[a]=>E a
 |a::r=>(E a).bind λf=>(cVs E an r).map λg=>if an=true then bu f g else orV f g
noncomputable def anB:BoolOp->Bool
 |.And=>true
 |.Or=>false
section
variable {X:Cx}{pos:Pos}
theorem dY{E:Expr->Option FE}(h:∀e f,E e=some f->DE X e f):∀{es:List Expr}{fa:FA},cAs E es=some fa->DA X es fa/\es.all bA=true
 |[],fa,e=>by cases e;exact ⟨da_nil,rfl⟩
 |e::es,fa,q=>by
  unfold cAs at q;split at q
  ·rename_i z
   obtain ⟨f,e1,q⟩:=bnd q;obtain ⟨ga,e2,q⟩:=Á.mp q;cases q;obtain ⟨h1,h2⟩:=dY h e2;exact ⟨yke z (h e f e1) h1,by rw[Ĩ,z,h2];rfl⟩
  ·cases q
theorem yfk{S:Stmt->Option FS}(h:∀e f,S e=some f->DS X e f):∀{ss:List Stmt}{fs:FS},cBs S ss=some fs->DB X ss fs
 |[],fa,e=>by cases e;exact db_nil
 |e::es,fa,q=>by
  unfold cBs at q;obtain ⟨f,e1,q⟩:=bnd q;obtain ⟨ga,e2,q⟩:=Á.mp q;cases q;exact db_cons (h e f e1) (yfk h e2)
theorem cTs_ok{T:Expr->Option FT}(h:∀e f,T e=some f->DT X e f){op:BoolOp}:∀{es:List Expr}{ft:FT},cTs T (anB op) es=some ft->DW X (.BoolOp op es pos) ft
 |[],ft,e=>by cases e
 |[a],ft,e=>by cases op<;>first|exact dw_and1 (h _ _ e)|exact dw_or1 (h _ _ e)
 |a::b::r,ft,q=>by
  unfold cTs at q;obtain ⟨f,e1,q⟩:=bnd q;obtain ⟨g,e2,q⟩:=Á.mp q;cases q;have ih:=cTs_ok h (op:=op) e2;cases op with
  |And=>exact dw_and (h a f e1) ih
  |Or=>exact dw_or (h a f e1) ih
theorem cVs_ok{E:Expr->Option FE}(h:∀e f,E e=some f->DE X e f){op:BoolOp}:∀{es:List Expr}{ft:FE},cVs E (anB op) es=some ft->DE X (.BoolOp op es pos) ft
 |[],ft,e=>by cases e
 |[a],ft,e=>de_one (h _ _ e)
 |a::b::r,ft,q=>by
  unfold cVs at q;obtain ⟨f,e1,q⟩:=bnd q;obtain ⟨g,e2,q⟩:=Á.mp q;cases q;have ih:=cVs_ok h (op:=op) e2;cases op with
  |And=>exact de_and (h a f e1) ih
  |Or=>exact de_or (h a f e1) ih
end
noncomputable def cCmp(op:CmpOp)(b:Expr)(f:FE)(g:Option FE):Option FE:=match op,b with
 |.Is,.Constant .none _ _=>some (isNF false f)
 |.IsNot,.Constant .none _ _=>some (isNF true f)
 |_,_=>if Ŏ op b=true then none else (cmpG op).bind λh=>g.map (ß h f)
theorem yjf{X:Cx}{n:Nat}{a b:Expr}{op:CmpOp}{f r:FE}{g:Option FE}{pos:Pos}(hr:Room n X.A)(h1:DE X a f)(h2:∀g',g=some g'->DE X b g')(h:cCmp op b f g=some r):DE X (.Compare a [op] [b] pos) r/\DT X (.Compare a [op] [b] pos) (ò r):=by
 unfold cCmp at h;split at h
 ·cases h;exact de_isN h1
 ·cases h;exact de_notN h1
 ·split at h
  ·cases h
  ·rename_i z
   obtain ⟨g2,e1,h⟩:=bnd h;obtain ⟨g',e2,h⟩:=Á.mp h;cases h;have z:Ŏ op b=false:=by simpa using z
   exact ⟨de_cmp (qjb hr e1) h1 (h2 _ e2) z,dt_cmp (qjb hr e1) h1 (h2 _ e2) z⟩
noncomputable def cNs(bx:Bx):List Expr->Option (List (Nat×Str×Pos))
 |[]=>some []
 |e::r=>match e with
  |.Name x p=>(yij bx x).bind λi=>(cNs bx r).map ((i,x,p) :: ·)
  |_=>none
theorem qi1{X:Cx}{bx:Bx}(s:SOk X bx):∀{es:List Expr}{ts:List (Nat×Str×Pos)},cNs bx es=some ts->es=ts.map (λt=>.Name t.2.1 t.2.2)/\∀t∈ts,Wr X t.1 t.2.1
 |[],ts,h=>by cases h;exact ⟨rfl,λt ht=>nomatch ht⟩
 |e::r,ts,h=>by
  unfold cNs at h;split at h
  ·rename_i x p
   obtain ⟨i,e1,h⟩:=bnd h;obtain ⟨ts',e2,h⟩:=Á.mp h;cases h;obtain ⟨h1,h2⟩:=qi1 s e2;refine ⟨by rw[h1];rfl,λt ht=>?_⟩;rcases ñ.mp ht with rfl|ht
   ·exact yeh s e1
   ·exact h2 t ht
  ·cases h
noncomputable def cTg(bx:Bx):Expr->Option (List Nat×FG)
 |.Name x _=>(yij bx x).map λi=>([i],Đ i)
 |.Tuple es _ _=>(cNs bx es).map λts=>(ts.map (·.1),bN (ts.map (·.1)))
 |_=>none
theorem cTg_ok{X:Cx}{bx:Bx}(s:SOk X bx){e:Expr}{r:List Nat×FG}(h:cTg bx e=some r):DG X e r.1 r.2:=by
 unfold cTg at h;split at h
 ·obtain ⟨i,e1,h⟩:=Á.mp h;cases h;exact dg_name (yeh s e1)
 ·obtain ⟨ts,e1,h⟩:=Á.mp h;cases h;obtain ⟨rfl,h2⟩:=qi1 s e1;exact dg_tup s.calm h2
 ·cases h
noncomputable def relB(xs sc:Scope):Scope:={ sc with names:=sc.names.map λ(n,k)=>if (k == ă&&xs.kind == .function&&xs.names.lookup n == some .cell) then (n,ŵ) else (n,k) }
noncomputable def tNames:Expr->List Str
 |.Name x _=>[x]
 |.Tuple es _ _=>es.filterMap λe=>match e with
  |.Name x _=>some x
  |_=>none
 |_=>[]
noncomputable def dI(bx:Bx)(tg:Expr)(scope:Scope):List Str:=tNames tg++bx.N.filter λx=>decide (scope.names.lookup x=some .free)
noncomputable def blkX(bx:Bx)(tg:Expr)(scope:Scope):List (Option Nat):=(tNames tg).map (λ_=>none)++(bx.N.filter λx=>decide (scope.names.lookup x=some .free)).map λx=>bx.N.findIdx? (· == x)
noncomputable def blk(bx:Bx)(tg:Expr)(scope:Scope):Bx:=⟨dI bx tg scope,relB bx.sc scope,false,bx.own⟩
theorem ykk{X:Cx}{bx:Bx}{M:List Str}{tg:Expr}{scope:Scope}{C:Addr}{fp:List Addr}{s2:Ç}{H2:Hp}(s:SOk X bx)(hn:(dI bx tg scope).Nodup):SOk (bn X (dI bx tg scope) scope C fp s2 H2) (blk bx tg scope):=by
 refine ⟨rfl,?_,hn,λh=>(by cases h),s.calm,rfl⟩;show relabel scope X.env=relB bx.sc scope;rw[<-s.sc];rfl
theorem blk_g{X:Cx}{n:Nat}{G:Gb}{M:List Str}{scope:Scope}{C:Addr}{fp:List Addr}{s2:Ç}{H2:Hp}(g:GOk n X G):GOk n (bn X M scope C fp s2 H2) G:=⟨g.room,g.fns,g.csts,g.bl,g.flds,g.meths,g.clss,g.tabs,g.tupN,g.hk⟩
end Dp
namespace Dp
open PySem L2 PyProof.Rows Mx
section
variable {X:Cx}{p pos:Pos}
theorem de_call0(h:Has X.prog X.w X.K X.mg X.base k x ps (bj X.kc F))(hr:Room m X.A)(hk:k<=m)(hg:Gl X x)(hdb:(x == ("__debug__" : Str))=false):DE X (.Call (.Name x p) [] [] pos) (č F Î):=by
 obtain ⟨f,fd,h1,h2,h3,h4⟩:=h;refine ⟨_,pe_call0 h4 (hr.mono hk) hg h1 h2 h3 .nil qiq hdb,λL ρ σ x r S' Q h k rl q=>?_⟩;obtain ⟨⟨ds,S1⟩,e1,h⟩:=bnd h;cases e1;exact ⟨L,x,[],r,S',rfl,k,.nil,h,λv z ez=>q v z ez⟩
theorem ass_sub(h:qbk i=true)(v:Æ):assign (.Subscript o i p') env v=(do
   let ov <-holding [v] (eval o env);let iv <-holding [v,ov] (eval i env)
   standAt p'
   holding [v,ov,iv] (setItem ov iv v)
   release [v,ov,iv] []):=by
 cases i<;>first|rfl|cases h
theorem bi_lenS:Bi X "len" lenS:=⟨_,boot_len,.inl ⟨_,rfl⟩,_,qe0,λL x vs ds r S' Q k hv e q=>by
 obtain ⟨d,e1,e⟩:=bnd e;obtain ⟨z,e2,e⟩:=bnd e;split at e
 ·cases e;obtain ⟨v,rfl,hw⟩:=cH hv e1;unfold qe2 at e2;split at e2
  ·cases e2;cases hw;exact ⟨_,rfl,eY (by assumption),q _ x Ex.refl rfl k (.int _)⟩
  ·cases e2
 ·cases e⟩
end
noncomputable def az:FF:=orC lenC lenS
noncomputable def maxC:FF:=d9 λa m=>decide (a<=m)
noncomputable def minC:FF:=d9 λa m=>decide (m<=a)
noncomputable def max2C:FF:=twoI λi j=>if j>i then j else i
noncomputable def min2C:FF:=twoI λi j=>if j<i then j else i
noncomputable def all1C:FF:=allC λbs=>bs.all id
noncomputable def any1C:FF:=allC λbs=>bs.any id
noncomputable def yhu:FF:=orC dR fo
noncomputable def biT:List (Str×Nat×FF):=[("len",1,az),("abs",1,absC),("int",1,intC),("tuple",1,ax),("list",1,bX),("max",1,maxC),("min",1,minC),("max",2,max2C),("min",2,min2C),("all",1,all1C),("any",1,any1C),("sorted",1,yhu)]
noncomputable def biF(x:Str)(n:Nat):Option FF:=(biT.find? λt=>t.1 == x&&t.2.1 == n).map (·.2.2)
theorem biT_ok(hc:X.calm=true):∀t∈biT,Bi X t.1 t.2.2:=by
 intro t ht;unfold biT at ht;simp only[ñ,Ņ,or_false]at ht;rcases ht with rfl|rfl|rfl|rfl|rfl|rfl|rfl|rfl|rfl|rfl|rfl|rfl
 ·exact bi_or bi_len bi_lenS
 ·exact bi_abs
 ·exact bi_int
 ·exact bi_tup
 ·exact bi_lst
 ·exact bi_max hc
 ·exact bi_min hc
 ·exact bi_max2 hc
 ·exact bi_min2 hc
 ·exact bi_all hc
 ·exact bi_any hc
 ·exact bi_or bi_sort (bi_sortE hc)
theorem biF_ok(hc:X.calm=true){x:Str}{n:Nat}{F:FF}(h:biF x n=some F):Bi X x F:=by
 obtain ⟨t,e,rfl⟩:=Á.mp h;have h1:=biT_ok hc t (Ź e);have h2:=find?_some e;simp only[Å]at h2;rw[<-Ď h2.1];exact h1
noncomputable def tyN:List (Str×String):=[("int","int"),("bool","bool"),("str","str"),("tuple","tuple"),("list","list")]
theorem tyN_ok(h:tyN.lookup nm=some T):tyB T=true/\Ī nm=some (.type T)/\nm∈blN:=by
 have hm:=ĝ h;unfold tyN at hm;simp only[ñ,Ņ,or_false,Prod.mk.injEq]at hm;rcases hm with ⟨rfl,rfl⟩|⟨rfl,rfl⟩|⟨rfl,rfl⟩|⟨rfl,rfl⟩|⟨rfl,rfl⟩
 ·exact ⟨by decide,boot_int,by decide⟩
 ·exact ⟨by decide,boot_bool,by decide⟩
 ·exact ⟨by decide,boot_str,by decide⟩
 ·exact ⟨by decide,boot_tuple,by decide⟩
 ·exact ⟨by decide,boot_list,by decide⟩
noncomputable def cPat(bx:Bx)(x:Str)(es:List Expr)(E:Expr->Option FE):Option FE:=match es with
 |[.Call (.Name y _) es2 [] _]=>if dX bx y=true then (match es2 with
  |[e]=>if ((x == "sorted" && y == "set")&&bA e)=true then (E e).map λf=>č qa1 (Ñ f Î)
    else if ((x == "len" && y == "set")&&bA e)=true then (E e).map λf=>č qee (Ñ f Î)
    else if ((x == "list" && y == "range")&&bA e)=true then (cAs E [e]).map lrF else none
  |[a,b]=>if (x == "dict" && y == "zip")=true then (cAs E [a,b]).map fF else none
  |_=>none) else none
 |_=>none
theorem cPat_ok(g:GOk n X G)(s:SOk X bx)(hg:dX bx x=true)(hE:∀e f,E e=some f->DE X e f)(h:cPat bx x es E=some r):DE X (.Call (.Name x p) es [] pos) r:=by
 unfold cPat at h;obtain ⟨g1,g2,g3⟩:=eU s hg;split at h
 ·split at h
  ·rename_i hy
   obtain ⟨q1,q2,q3⟩:=eU s hy;split at h
   ·split at h
    ·rename_i z
     simp only[Å]at z;obtain ⟨f,e1,h⟩:=Á.mp h;cases h;cases Ď z.1.1;cases Ď z.1.2;exact yh2 g.room s.calm q1 (g.bl _ (by decide)) g1 (g.bl _ (by decide)) z.2 (hE _ _ e1)
    ·split at h
     ·rename_i z
      simp only[Å]at z;obtain ⟨f,e1,h⟩:=Á.mp h;cases h;cases Ď z.1.1;cases Ď z.1.2;exact qio g.room s.calm q1 (g.bl _ (by decide)) g1 (g.bl _ (by decide)) z.2 (hE _ _ e1)
     ·split at h
      ·rename_i z
       simp only[Å]at z;obtain ⟨f,e1,h⟩:=Á.mp h;cases h;cases Ď z.1.1;cases Ď z.1.2;exact de_lrng s.calm g1 (g.bl _ (by decide)) q1 (g.bl _ (by decide)) z.2 (dY hE e1).1
      ·cases h
   ·split at h
    ·rename_i z
     simp only[Å]at z;obtain ⟨f,e1,h⟩:=Á.mp h;cases h;cases Ď z.1;cases Ď z.2;obtain ⟨ha,hs⟩:=dY hE e1;exact de_dzip s.calm g1 (g.bl _ (by decide)) q1 (g.bl _ (by decide)) hs ha
    ·cases h
   ·cases h
  ·cases h
 ·cases h
noncomputable def cIsi(bx:Bx)(x:Str)(es:List Expr)(E:Expr->Option FE):Option FE:=
 if (x == "isinstance")=true then match es with
   |[e,.Name nm _]=>if (dX bx nm&&bA e)=true then (tyN.lookup nm).bind λT=>(E e).map (bQ T) else none
   |_=>none
 else none
noncomputable def cBi(bx:Bx)(x:Str)(es:List Expr)(fa:FA):Option FE:=
 if blN.contains x=true then
  match es with
   |[]=>none
   |_::_=>(biF x es.length).map λF=>č F fa
 else none
noncomputable def cCall(G:Gb)(bx:Bx)(x:Str)(es:List Expr)(fa:Option FA)(E:Expr->Option FE):Option FE:=
 if dX bx x=true then match G.fns.lookup x with
  |some F=>fa.map λfa=>č F fa
  |none=>match G.clss.lookup x with
   |some F=>(match es with
    |[]=>none
    |_::_=>fa.map λfa=>yf3 x F fa)
   |none=>(cPat bx x es E).or ((cIsi bx x es E).or (fa.bind λfa=>cBi bx x es fa))
 else none
section
variable {X:Cx}{n:Nat}{G:Gb}{bx:Bx}{x:Str}{es:List Expr}{fa:FA}{E:Expr->Option FE}{r:FE}{p pos:Pos}
theorem cIsi_ok(g:GOk n X G)(s:SOk X bx)(hg:dX bx x=true)(hE:∀e f,E e=some f->DE X e f)(h:cIsi bx x es E=some r):DE X (.Call (.Name x p) es [] pos) r:=by
 unfold cIsi at h;obtain ⟨g1,g2,g3⟩:=eU s hg;split at h
 ·rename_i hi
  cases Ď hi;split at h
  ·rename_i e nm q
   split at h
   ·rename_i z
    simp only[Å]at z;obtain ⟨T,e1,h⟩:=bnd h;obtain ⟨f,e2,h⟩:=Á.mp h;cases h;obtain ⟨k1,k2,k3⟩:=tyN_ok e1;obtain ⟨q1,q2,q3⟩:=eU s z.1;exact de_isi k1 k2 g1 (g.bl _ (by decide)) q1 (g.bl nm k3) q3 q2 z.2 (hE e f e2)
   ·cases h
  ·cases h
 ·cases h
theorem cBi_ok(g:GOk n X G)(s:SOk X bx)(hg:dX bx x=true)(ha:DA X es fa)(hs:es.all bA=true)(h:cBi bx x es fa=some r):DE X (.Call (.Name x p) es [] pos) r:=by
 unfold cBi at h;obtain ⟨g1,g2,g3⟩:=eU s hg;split at h
 ·rename_i hb
  have hm:=g.bl x (by simpa using hb);split at h
  ·cases h
  ·obtain ⟨F,e1,h⟩:=Á.mp h;cases h;exact de_bi (biF_ok s.calm e1) ha g1 hm g3 g2 hs
 ·cases h
theorem cCall_ok{fa:Option FA}(g:GOk n X G)(s:SOk X bx)(hE:∀e f,E e=some f->DE X e f)(hfa:fa=cAs E es)(h:cCall G bx x es fa E=some r):DE X (.Call (.Name x p) es [] pos) r:=by
 subst hfa;unfold cCall at h;split at h
 ·rename_i hg
  obtain ⟨g1,g2,g3⟩:=eU s hg;split at h
  ·rename_i F hF
   obtain ⟨fa,e1,h⟩:=Á.mp h;cases h;obtain ⟨k,ps,hk,hH⟩:=g.fns x F hF;obtain ⟨ha,hs⟩:=dY hE e1;cases es with
   |nil=>cases e1;exact de_call0 hH g.room hk g1 g2
   |cons e es=>exact de_call hH g.room hk ha g1 g2 hs
  ·split at h
   ·rename_i F hF
    split at h
    ·cases h
    ·obtain ⟨fa,e1,h⟩:=Á.mp h;cases h;obtain ⟨C,k,ps,hC,hk,hH⟩:=g.clss x F hF;obtain ⟨ha,hs⟩:=dY hE e1;exact de_make g.room hC hH hk ha g1 g2 hs
   ·cases e0:cPat bx x es E with
    |some q=>rw[e0]at h;cases h;exact cPat_ok g s hg hE e0
    |none=>
     rw[e0,æ]at h;cases e2:cIsi bx x es E with
     |some q=>rw[e2]at h;cases h;exact cIsi_ok g s hg hE e2
     |none=>
      rw[e2,æ]at h;obtain ⟨fa,e1,h⟩:=bnd h;obtain ⟨ha,hs⟩:=dY hE e1;exact cBi_ok g s hg ha hs h
 ·cases h
end
noncomputable def cMet2(G:Gb)(bx:Bx)(m:Str)(o:Expr)(es:List Expr)(E O:Expr->Option FE):Option FE:=match es with
 |[e]=>if (m == "count")=true then (match o with
  |.Subscript (.Name x _) b _=>if (dX bx x&&qbk b)=true then (G.tabs.lookup x).bind λD=>(E b).bind λf=>(E e).map λg=>cntF D f g else none
  |_=>none) else none
 |[a,b]=>if (m == "setdefault" && bA a&&bA b)=true then (E o).bind λf=>(E a).bind λg=>((O b).or (E b)).map λh=>eu f g h
  else if (m == "get")=true then (E o).bind λf=>(E a).bind λg=>(E b).map λh=>getF f g h else none
 |_=>none
theorem cMet2_ok(g:GOk n X G)(s:SOk X bx)(hE:∀e f,E e=some f->DE X e f)(hO:∀e f,O e=some f->DE X e f)(hp:yd3 o=true)(hf:es.length<28)(hl:(apos.endLine == pos.line)=true)(hs:es.all bA=true)(h:cMet2 G bx m o es E O=some r) :
  DE X (.Call (.Attribute o m apos) es [] pos) r:=by
 unfold cMet2 at h;split at h
 ·split at h
  ·rename_i z
   cases Ď z;split at h
   ·split at h
    ·rename_i z2
     simp only[Å]at z2;obtain ⟨D,e1,h⟩:=bnd h;obtain ⟨f,e2,h⟩:=bnd h;obtain ⟨g',e3,h⟩:=Á.mp h;cases h;obtain ⟨g1,g2,_⟩:=eU s z2.1;exact de_cnt g.tupN g1 g2 (g.tabs _ _ e1) z2.2 (hE _ _ e2) (hE _ _ e3) ⟨hp,hs,hf,hl⟩
    ·cases h
   ·cases h
  ·cases h
 ·split at h
  ·rename_i z
   simp only[Å]at z;cases Ď z.1.1;obtain ⟨f,e1,h⟩:=bnd h;obtain ⟨f2,e2,h⟩:=bnd h;obtain ⟨f3,e3,h⟩:=Á.mp h;cases h;refine de_sdf g.room (hE _ _ e1) (hE _ _ e2) ?_ ⟨hp,hs,hf,hl⟩;cases e0:O _ with
   |some q=>rw[e0]at e3;cases e3;exact hO _ _ e0
   |none=>rw[e0,æ]at e3;exact hE _ _ e3
  ·split at h
   ·rename_i z
    cases Ď z;obtain ⟨f,e1,h⟩:=bnd h;obtain ⟨f2,e2,h⟩:=bnd h;obtain ⟨f3,e3,h⟩:=Á.mp h;cases h;exact de_get g.room (hE _ _ e1) (hE _ _ e2) (hE _ _ e3) ⟨hp,hs,hf,hl⟩
   ·cases h
 ·cases h
noncomputable def cMeth(G:Gb)(m:Str)(es:List Expr)(f:FE)(fa:FA):Option FE:=match G.meths.lookup m with
 |some ms=>some (cK m ms f fa)
 |none=>match es with
  |[]=>if (m == "pop")=true then some (popF f) else none
  |_::_=>if (m == "append")=true then some (aA f fa) else if (m == "extend")=true then some (cx f fa) else none
theorem cMeth_ok(g:GOk n X G)(h1:DE X o f)(ha:DA X es fa)(h0:es=[]->fa=Î)(hc:CallOk X o es apos pos)(h:cMeth G m es f fa=some r):DE X (.Call (.Attribute o m apos) es [] pos) r:=by
 have bm:∀nm,BmOk X o nm es apos pos:=λnm=>⟨ybj hc.plain,hc.form,hc.line⟩;unfold cMeth at h;split at h
 ·rename_i ms hm
  cases h;cases es with
  |nil=>rw[h0 rfl];exact de_meth0 g.room (g.meths m ms hm) h1 hc
  |cons e es=>exact de_meth g.room (g.meths m ms hm) h1 ha hc
 ·split at h
  ·split at h
   ·rename_i z
    cases Ď z;cases h;exact de_pop hc h1
   ·cases h
  ·split at h
   ·rename_i z
    cases Ď z;cases h;exact de_app (bm _) h1 ha hc.star
   ·split at h
    ·rename_i z
     cases Ď z;cases h;exact de_ext (bm _) h1 ha hc.star
    ·cases h
end Dp
namespace Dp
open PySem L2 PyProof.Rows Mx
noncomputable def cIter(bx:Bx)(tg:Expr)(E:Expr->Option FE):Expr->Option FA
 |.Call f es ks _=>(match f with
  |.Name x _=>if (dX bx x&&ks.isEmpty)=true then (match es with
   |[a]=>
    if (x == "range")=true then (cAs E [a]).map bz
    else if (x == "enumerate")=true then (match tg with
     |.Tuple _ _ _=>(cAs E [a]).map cZ
     |.Name _ _=>(cAs E [a]).map enu1F
     |_=>none)
    else none
   |[a,b]=>if (x == "zip")=true then (match tg with
     |.Tuple _ _ _=>(cAs E [a,b]).map cE
     |_=>none) else none
   |_=>none) else none
  |_=>none)
 |_=>none
noncomputable def cI(bx:Bx)(tg it:Expr)(E:Expr->Option FE):Option FA:=if yek it=true then (cIter bx tg E it).or ((E it).map Ų) else none
theorem cI_ok(g:GOk n X G)(s:SOk X bx)(hE:∀e f,E e=some f->DE X e f)(h:cI bx tg it E=some fa):DI X tg it fa/\yek it=true:=by
 unfold cI at h;split at h
 ·rename_i hn
  refine ⟨?_,hn⟩;cases e0:cIter bx tg E it with
  |none=>
   rw[e0,æ]at h;obtain ⟨f,e1,h⟩:=Á.mp h;cases h;exact di_seq (hE _ _ e1)
  |some r=>
   rw[e0]at h;cases h;unfold cIter at e0;split at e0
   ·split at e0
    ·split at e0
     ·rename_i hg
      simp only[Å,List.isEmpty_iff]at hg;obtain ⟨hg,rfl⟩:=hg;obtain ⟨g1,g2,g3⟩:=eU s hg;split at e0
      ·split at e0
       ·rename_i z
        cases Ď z;obtain ⟨f,e1,h⟩:=Á.mp e0;cases h;obtain ⟨h1,h2⟩:=dY hE e1;rw[Ĩ,Å]at h2;exact di_rng g1 (g.bl _ (by decide)) h1 h2.1
       ·split at e0
        ·rename_i z
         cases Ď z;split at e0
         ·obtain ⟨f,e1,h⟩:=Á.mp e0;cases h;obtain ⟨h1,h2⟩:=dY hE e1;rw[Ĩ,Å]at h2;exact di_enu g1 (g.bl _ (by decide)) h1 h2.1
         ·obtain ⟨f,e1,h⟩:=Á.mp e0;cases h;obtain ⟨h1,h2⟩:=dY hE e1;rw[Ĩ,Å]at h2;exact di_enu1 g1 (g.bl _ (by decide)) h1 h2.1
         ·cases e0
        ·cases e0
      ·split at e0
       ·rename_i z
        cases Ď z;split at e0
        ·obtain ⟨f,e1,h⟩:=Á.mp e0;cases h;obtain ⟨h1,h2⟩:=dY hE e1;exact di_zip g1 (g.bl _ (by decide)) h1 h2
        ·cases e0
       ·cases e0
      ·cases e0
     ·cases e0
    ·cases e0
   ·cases e0
 ·cases h
noncomputable def cSl(E:Expr->Option FE)(f:FE):Expr->Option FE
 |.Slice lo hi st _=>match st with
  |none=>(match lo with
   |none=>some cX
   |some e=>(E e).map η).bind λfl=>(match hi with
   |none=>some cX
   |some e=>(E e).map η).map λfh=>b5 f fl fh
  |some e=>match lo,hi with
   |none,none=>(E e).map (sl3F f)
   |_,_=>none
 |b=>(E b).map λg=>ß á f g
theorem cO_ok{X:Cx}{E:Expr->Option FE}(hE:∀e f,E e=some f->DE X e f){lo:Option Expr}{fl:FO}(h:(match lo with
   |none=>some cX
   |some e=>(E e).map η)=some fl):DO X lo fl:=by
 cases lo with
 |none=>cases h;exact do_no
 |some e=>
  obtain ⟨f,e1,h⟩:=Á.mp h;cases h;exact do_part (hE _ _ e1)
theorem cSl_ok(hr:Room n X.A)(hE:∀e f,E e=some f->DE X e f)(h1:DE X a f)(h:cSl E f b=some r):DE X (.Subscript a b pos) r:=by
 have main:∀(b:Expr),qbk b=true->((E b).map λg=>ß á f g)=some r->DE X (.Subscript a b pos) r:=λb hb h=>by
  obtain ⟨g,e1,h⟩:=Á.mp h;cases h;exact de_ix (ix2_all hr) h1 (hE _ _ e1) hb
 cases b with
 |Slice lo hi st p=>
  unfold cSl at h;cases st with
  |none=>
   obtain ⟨fl,e1,h⟩:=bnd h;obtain ⟨fh,e2,h⟩:=Á.mp h;cases h;exact de_sl h1 (cO_ok hE e1) (cO_ok hE e2)
  |some e=>
   cases lo with
   |none=>
    cases hi with
    |none=>
     obtain ⟨g,e1,h⟩:=Á.mp h;cases h;exact de_sl3 h1 (hE _ _ e1)
    |some _=>cases h
   |some _=>cases hi<;>cases h
 |_=>exact main _ rfl h
structure Cp where
 ix:List (Option Nat)
 fi:FA
 is:List Nat
 fg:FG
 ft:FT
 f:FE
noncomputable def cTs1(T:Expr->Option FT):List Expr->Option FT
 |[]=>some υ
 |[c]=>T c
 |_=>none
noncomputable def cComp(bx:Bx)(c:Cm)(elt tg it:Expr)(ifs:List Expr)(scope:Scope):Option Cp:=
 if qgj bx.N (dI bx tg scope) (blkX bx tg scope) scope bx.sc&&decide (dI bx tg scope).Nodup then
  (c.I bx tg it).bind λfi=>(cTg (blk bx tg scope) tg).bind λg=>if g.1.all (λi=>decide ((blkX bx tg scope)[i]?=some none))&&yek it then
   (cTs1 (c.T (blk bx tg scope)) ifs).bind λft=>(c.E (blk bx tg scope) elt).map λf=>⟨blkX bx tg scope,fi,g.1,g.2,ft,f⟩ else none
 else none
structure CmOk(n:Nat)(G:Gb)(c:Cm):Prop where
 E:∀{X:Cx}{bx:Bx},GOk n X G->SOk X bx->∀e f,c.E bx e=some f->DE X e f
 O:∀{X:Cx}{bx:Bx},GOk n X G->SOk X bx->∀k e f,c.O bx k e=some f->DE X e f
 T:∀{X:Cx}{bx:Bx},GOk n X G->SOk X bx->∀e f,c.T bx e=some f->DT X e f
 I:∀{X:Cx}{bx:Bx},GOk n X G->SOk X bx->∀tg it f,c.I bx tg it=some f->DI X tg it f
 S:∀{X:Cx}{bx:Bx},GOk n X G->SOk X bx->∀e f,c.S bx e=some f->DS X e f
structure CpOk(X:Cx)(elt tg it:Expr)(ifs:List Expr)(scope:Scope)(M:List Str)(p:Cp):Prop where
 ck:CompOk X.N M p.ix scope X.env.scope
 hix:∀i∈p.is,p.ix[i]?=some none
 h1:DI X tg it p.fi
 h2:∀C fp s2 H2,DG (bn X M scope C fp s2 H2) tg p.is p.fg
 h3:∀C fp s2 H2,DTs (bn X M scope C fp s2 H2) ifs p.ft
 h4:∀C fp s2 H2,DE (bn X M scope C fp s2 H2) elt p.f
 hs:yek it=true
theorem cComp_ok(g:GOk n X G)(s:SOk X bx)(hc:CmOk n G c)(h:cComp bx c elt tg it ifs scope=some p):CpOk X elt tg it ifs scope (dI bx tg scope) p:=by
 unfold cComp at h;split at h
 ·rename_i z
  simp only[Å,decide_eq_true_eq]at z;obtain ⟨fi,e1,h⟩:=bnd h;obtain ⟨gg,e2,h⟩:=bnd h;split at h
  ·rename_i z2
   simp only[Å,Û,decide_eq_true_eq]at z2;obtain ⟨ft,e3,h⟩:=bnd h;obtain ⟨f,e4,h⟩:=Á.mp h;cases h;refine ⟨?_,z2.1,hc.I g s _ _ _ e1,λC fp s2 H2=>cTg_ok (ykk (M:=[]) s z.2) e2,λC fp s2 H2=>?_,λC fp s2 H2=>hc.E (blk_g g) (ykk (M:=[]) s z.2) _ _ e4,z2.2⟩
   ·rw[s.N,s.sc];exact qi5 z.1
   ·unfold cTs1 at e3;split at e3
    ·cases e3;exact dts_nil
    ·exact dts_one (hc.T (blk_g g) (ykk (M:=[]) s z.2) _ _ e3)
    ·cases e3
  ·cases h
 ·cases h
end Dp
namespace Dp
open PySem L2 PyProof.Rows Mx
noncomputable def qfo(bx:Bx)(c:Cm)(own:Bool)(elt:Expr)(gs:List Comprehension)(scope:Scope):Option (Cp×Bool):=match gs with
 |[⟨tg,it,ifs,as⟩]=>if as=0 then (cComp bx c elt tg it ifs scope).map (·,own) else none
 |_=>none
noncomputable def cTab(G:Gb)(bx:Bx)(op:CmpOp)(b:Expr)(f:FE):Option FE:=match op,b with
 |.In,.Name x _=>if dX bx x=true then (G.tabs.lookup x).map λD=>inTF D f else none
 |_,_=>none
noncomputable def cSub(G:Gb)(bx:Bx)(a b:Expr)(E:Expr->Option FE):Option FE:=match a with
 |.Name x _=>if (dX bx x&&qbk b)=true then (G.tabs.lookup x).bind λD=>(E b).map λf=>em D f else none
 |_=>none
noncomputable def cPs(E V:Expr->Option FE):List (Option Expr)->List Expr->Option FP
 |[],[]=>some nilP
 |some k::ks,v::vs=>(E k).bind λf=>(V v).bind λg=>(cPs E V ks vs).map λfp=>yei f g fp
 |_,_=>none
noncomputable def dQ(c:Cm)(bx:Bx)(ks:List (Option Expr))(vs:List Expr):Option FE:=if ks.isEmpty=true then none else if ks.length<=15 then (cPs (c.E bx) (c.E bx) ks vs).map dicF else none
noncomputable def cW(G:Gb)(c:Cm)(bx:Bx):Expr->Option FE
 |.Name x _=>((dS bx x).map Ä).or (if dX bx x=true then (G.csts.lookup x).map cF else none)
 |.Constant k _ _=>match k with
  |.int i=>some (cF (.int i))
  |.str z=>some (cF (.str z))
  |.none=>some (cF .none)
  |.bool b=>some (cF (.bool b))
  |_=>none
 |.BinOp a op b _=>(c.E bx a).bind λf=>(c.E bx b).bind λg=>(binG op).map λh=>ß h f g
 |.UnaryOp op a _=>match op with
  |.USub=>(c.E bx a).map negF
  |.Not=>(c.E bx a).map λf=>bvF (χ (ò f))
  |_=>none
 |.Compare a ops bs _=>match ops,bs with
  |[op],[b]=>(c.E bx a).bind λf=>(cTab G bx op b f).or (cCmp op b f (c.E bx b))
  |_,_=>none
 |.BoolOp op es _=>cVs (c.E bx) (anB op) es
 |.IfExp t a b _=>(c.T bx t).bind λft=>(c.E bx a).bind λf=>(c.E bx b).map λg=>ifF ft f g
 |.Subscript a b _=>(cSub G bx a b (c.E bx)).or ((c.E bx a).bind λf=>cSl (c.E bx) f b)
 |.Tuple es _ _=>(cAs (c.E bx) es).map ģ
 |.List es _=>(cAs (c.E bx) es).map ĵ
 |.ListComp elt gs scope _=>(qfo bx c false elt gs scope).map λp=>Į false p.1.ix p.1.fi p.1.fg p.1.ft p.1.f
 |.Attribute o nm _=>if yd3 o=true then (G.flds.lookup nm).bind λcs=>(c.E bx o).map (bp cs nm) else none
 |.Dict ks vs _=>dQ c bx ks vs
 |.Call fn es ks pos=>if ks.isEmpty=true then match fn with
  |.Name x _=>cCall G bx x es (cAs (c.E bx) es) (c.E bx)
  |.Attribute o m apos=>if yd3 o&&decide (es.length<28)&&apos.endLine == pos.line&&es.all bA then (cMet2 G bx m o es (c.E bx) (c.O bx ((bx.own.lookup ("setdefault" : Str)).getD 0))).or ((cAs (c.E bx) es).bind λfa=>(c.E bx o).bind λf=>cMeth G m es f fa) else none
  |_=>none else none
 |_=>none
noncomputable def fj(c:Cm)(bx:Bx)(k:Nat):Expr->Option FE
 |.List es _=>if k=0 then (cAs (c.E bx) es).map a7 else none
 |.ListComp elt gs scope _=>(qfo bx c true elt gs scope).map λp=>Į true p.1.ix p.1.fi p.1.fg p.1.ft p.1.f
 |.Dict ks vs _=>if (ks.isEmpty&&vs.isEmpty)=true then some (de (decide (k=2))) else dQ c bx ks vs
 |.Call fn es ks _=>(match fn with
  |.Name x _=>(match es with
   |[a]=>if (dX bx x&&x == "list" && bA a&&ks.isEmpty)=true then (c.E bx a).map λf=>č lstOC (Ñ f Î) else none
   |_=>none)
  |_=>none)
 |_=>none
noncomputable def ff(G:Gb)(c:Cm)(bx:Bx):Expr->Option FT
 |.UnaryOp .Not a _=>(c.T bx a).map χ
 |.BoolOp op es _=>cTs (c.T bx) (anB op) es
 |.IfExp ..=>none
 |.Compare a ops bs _=>match ops,bs with
  |[op],[b]=>(c.E bx a).bind λf=>((cTab G bx op b f).or (cCmp op b f (c.E bx b))).map ò
  |_,_=>none
 |.UnaryOp ..=>none
 |e=>(c.E bx e).map ò
noncomputable def cVal(c:Cm)(bx:Bx)(x:Str)(e:Expr):Option FE:=match bx.own.lookup x with
 |some k=>(c.O bx k e).or (c.E bx e)
 |none=>c.E bx e
noncomputable def qf0(G:Gb)(c:Cm)(bx:Bx):Stmt->Option FS
  |.Return v _=>match v with
    |some e=>(c.E bx e).map Ć
    |none=>some (Ć (cF .none))
  |.Pass _=>some ô
  |.Raise ..=>some noS
  |.Expr e _=>if eW e=true then (c.E bx e).map ř else none
  |.If t a b _=>(c.T bx t).bind λft=>(cBs (c.S bx) a).bind λf=>(cBs (c.S bx) b).map λg=>Ĥ ft f g
  |.For tg it body els _=>if els.isEmpty&&yek it then (c.I bx tg it).bind λfi=>(cTg bx tg).bind λg=>(cBs (c.S bx) body).map λfs=>ņ fi g.2 fs else none
  |.Assign tgs e _=>match tgs with
   |[tg]=>(match tg with
    |.Name x _=>(yij bx x).bind λi=>(match e with
      |.ListComp elt gs scope _=>(qfo bx c (bx.own.lookup x).isSome elt gs scope).map λp=>Č (Į p.2 p.1.ix p.1.fi p.1.fg p.1.ft p.1.f) (Đ i)
      |_=>if eW e=true then (cVal c bx x e).map λf=>Č f (Đ i) else none)
    |.Tuple es _ _=>if eW e&&noTup e then (cNs bx es).bind λts=>(c.E bx e).map λf=>Č f (bN (ts.map (·.1))) else none
    |.Subscript o i _=>if eW e&&qbk i then (c.E bx o).bind λf=>(c.E bx i).bind λg=>(c.E bx e).map λh=>qdq f g h else none
    |.Attribute o nm _=>if eW e=true then (G.flds.lookup nm).bind λcs=>(c.E bx o).bind λf=>(cVal c bx nm e).map λg=>fu cs nm f g else none
    |_=>none)
   |_=>none
  |_=>none
noncomputable def step(G:Gb)(c:Cm):Cm:=⟨λbx e=>(cW G c bx e).or (G.hk bx (c.E bx) e),fj c,ff G c,λbx tg it=>cI bx tg it (c.E bx),qf0 G c⟩
noncomputable def cm(G:Gb):Nat->Cm
 |0=>⟨λ_ _=>none,λ_ _ _=>none,λ_ _=>none,λ_ _ _=>none,λ_ _=>none⟩
 |n+1=>step G (cm G n)
section
variable {X:Cx}{n:Nat}{G:Gb}{bx:Bx}{c:Cm}
theorem ydl(g:GOk n X G)(s:SOk X bx)(hc:CmOk n G c){own:Bool}{elt:Expr}{gs:List Comprehension}{scope:Scope}{p:Cp×Bool}(h:qfo bx c own elt gs scope=some p):∃tg it ifs,gs=[⟨tg,it,ifs,0⟩]/\p.2=own/\CpOk X elt tg it ifs scope (dI bx tg scope) p.1:=by
 unfold qfo at h;split at h
 ·split at h
  ·rename_i z
   subst z;obtain ⟨q,e1,h⟩:=Á.mp h;cases h;exact ⟨_,_,_,rfl,rfl,cComp_ok g s hc e1⟩
  ·cases h
 ·cases h
theorem yi0(g:GOk n X G)(s:SOk X bx){op:CmpOp}{a b:Expr}{f r:FE}{pos:Pos}(h1:DE X a f)(h:cTab G bx op b f=some r):DE X (.Compare a [op] [b] pos) r/\DT X (.Compare a [op] [b] pos) (ò r):=by
 unfold cTab at h;split at h
 ·split at h
  ·rename_i z
   obtain ⟨D,e1,h⟩:=Á.mp h;cases h;obtain ⟨g1,g2,_⟩:=eU s z;exact de_inT g1 g2 (g.tabs _ _ e1) h1
  ·cases h
 ·cases h
theorem cPs_ok{E V:Expr->Option FE}(hE:∀e f,E e=some f->DE X e f)(hV:∀e f,V e=some f->DE X e f){pos:Pos}:∀{ks:List (Option Expr)}{vs:List Expr}{fp:FP},cPs E V ks vs=some fp->DP X pos ks vs fp/\ks.all (·.isSome)=true/\ks.length=vs.length
 |[],[],fp,h=>by cases h;exact ⟨dp_nil,rfl,rfl⟩
 |some k::ks,v::vs,fp,h=>by
  obtain ⟨f,e1,h⟩:=bnd (show ((E k).bind λf=>(V v).bind λg=>(cPs E V ks vs).map λfp=>yei f g fp)=some fp from h);obtain ⟨f2,e2,h⟩:=bnd h;obtain ⟨f3,e3,h⟩:=Á.mp h;cases h;obtain ⟨h1,h2,h3⟩:=cPs_ok hE hV (pos:=pos) e3;exact ⟨dp_cons (hE _ _ e1) (hV _ _ e2) h1,by rw[Ĩ,h2];rfl,congrArg (· + 1) h3⟩
 |[],_::_,fp,h=>by cases h
 |none::ks,_,fp,h=>by cases h
 |some k::ks,[],fp,h=>by cases h
theorem qgo(g:GOk n X G)(s:SOk X bx)(hc:CmOk n G c){ks:List (Option Expr)}{vs:List Expr}{r:FE}{pos:Pos}(h:dQ c bx ks vs=some r):DE X (.Dict ks vs pos) r:=by
 unfold dQ at h;split at h
 ·cases h
 ·rename_i z
  split at h
  ·rename_i h15
   obtain ⟨fp,e1,h⟩:=Á.mp h;cases h;obtain ⟨h1,h2,h3⟩:=cPs_ok (hc.E g s) (hc.E g s) (pos:=pos) e1;exact de_dic h1 h2 h3 (λe=>z (by rw[e];rfl)) h15
  ·cases h
theorem stepE_ok(g:GOk n X G)(s:SOk X bx)(hc:CmOk n G c)(e:Expr)(r:FE)(h:cW G c bx e=some r):DE X e r:=by
 have hE:=hc.E g s;have hT:=hc.T g s;cases e with
 |Name x p=>
  unfold cW at h;dsimp only at h;cases e1:dS bx x with
  |some i=>
   rw[e1]at h;cases h;exact slotE_ok s e1
  |none=>
   rw[e1]at h;simp only[Option.map_none,æ]at h;split at h
   ·rename_i z
    obtain ⟨d,e2,h⟩:=Á.mp h;cases h;obtain ⟨g1,g2,_⟩:=eU s z;obtain ⟨v,u,h1,h2,h3⟩:=g.csts x d e2;exact ⟨_,qeo g1 h1 h2 g2,dn_c h3⟩
   ·cases h
 |Constant k j p=>
  unfold cW at h;cases k<;>first|(cases h;done)|cases h
  ·exact de_non
  ·exact de_bl
  ·exact de_int
  ·exact de_str
 |BinOp a op b p=>
  unfold cW at h;dsimp only at h;obtain ⟨f,e1,h⟩:=bnd h;obtain ⟨f2,e2,h⟩:=bnd h;obtain ⟨f3,e3,h⟩:=Á.mp h;cases h;exact de_bin (binG_ok e3) (hE _ _ e1) (hE _ _ e2)
 |UnaryOp op a p=>
  unfold cW at h;dsimp only at h;cases op<;>first|(cases h;done)|skip
  ·obtain ⟨f,e1,h⟩:=Á.mp h;cases h;exact de_not (hE _ _ e1)
  ·obtain ⟨f,e1,h⟩:=Á.mp h;cases h;exact de_neg (hE _ _ e1)
 |Compare a ops bs p=>
  unfold cW at h;dsimp only at h;split at h
  ·obtain ⟨f,e1,h⟩:=bnd h
   rename_i op b _
   cases e0:cTab G bx op b f with
   |some q=>rw[e0]at h;cases h;exact (yi0 g s (hE _ _ e1) e0).1
   |none=>
    rw[e0,æ]at h;exact (yjf g.room (hE _ _ e1) (λg' e=>hE _ _ e) h).1
  ·cases h
 |BoolOp op es p=>
  unfold cW at h;dsimp only at h;exact cVs_ok hE h
 |IfExp t a b p=>
  unfold cW at h;dsimp only at h;obtain ⟨ft,e1,h⟩:=bnd h;obtain ⟨f,e2,h⟩:=bnd h;obtain ⟨f3,e3,h⟩:=Á.mp h;cases h;exact de_if (hT _ _ e1) (hE _ _ e2) (hE _ _ e3)
 |Subscript a b p=>
  unfold cW at h;dsimp only at h;cases e0:cSub G bx a b (c.E bx) with
  |some q=>
   rw[e0]at h;cases h;unfold cSub at e0;split at e0
   ·split at e0
    ·rename_i z
     simp only[Å]at z;obtain ⟨D,e1,h⟩:=bnd e0;obtain ⟨f,e2,h⟩:=Á.mp h;cases h;obtain ⟨g1,g2,_⟩:=eU s z.1;exact de_tab g1 g2 (g.tabs _ _ e1) z.2 (hE _ _ e2)
    ·cases e0
   ·cases e0
  |none=>
   rw[e0,æ]at h;obtain ⟨f,e1,h⟩:=bnd h;exact cSl_ok g.room hE (hE _ _ e1) h
 |Tuple es k p=>
  unfold cW at h;dsimp only at h;obtain ⟨fa,e1,h⟩:=Á.mp h;cases h;exact de_tup (dY hE e1).1
 |List es p=>
  unfold cW at h;dsimp only at h;obtain ⟨fa,e1,h⟩:=Á.mp h;cases h;exact de_lst (dY hE e1).1
 |ListComp elt gs scope p=>
  unfold cW at h;dsimp only at h;obtain ⟨q,e1,h⟩:=Á.mp h;cases h;obtain ⟨tg,it,ifs,rfl,_,k⟩:=ydl g s hc e1;exact ygh s.calm k.ck k.hix k.h1 k.h2 k.h3 k.h4 k.hs
 |Attribute o nm p=>
  unfold cW at h;dsimp only at h;split at h
  ·rename_i z
   obtain ⟨cs,e1,h⟩:=bnd h;obtain ⟨f,e2,h⟩:=Á.mp h;cases h;exact de_fld (g.flds nm cs e1) z (hE _ _ e2)
  ·cases h
 |Dict ks vs pos=>exact qgo g s hc h
 |Call fn es ks pos=>
  unfold cW at h;dsimp only at h;split at h
  ·rename_i z
   cases ks with
   |cons _ _=>cases z
   |nil=>
    cases fn<;>first|(cases h;done)|skip
    ·rename_i o m apos
     dsimp only at h;split at h
     ·rename_i z
      simp only[Å,decide_eq_true_eq]at z;cases e0:cMet2 G bx m o es (c.E bx) (c.O bx ((bx.own.lookup ("setdefault" : Str)).getD 0)) with
      |some q=>rw[e0]at h;cases h;exact cMet2_ok g s hE (hc.O g s _) z.1.1.1 z.1.1.2 z.1.2 z.2 e0
      |none=>
       rw[e0,æ]at h;obtain ⟨fa,e1,h⟩:=bnd h;obtain ⟨ha,hs⟩:=dY hE e1;obtain ⟨f,e2,h⟩:=bnd h;exact cMeth_ok g (hE _ _ e2) ha (λe=>by subst e;cases e1;rfl) ⟨z.1.1.1,hs,z.1.1.2,z.1.2⟩ h
     ·cases h
    ·exact cCall_ok g s hE rfl h
  ·cases h
 |_=>cases h
theorem stepO_ok(g:GOk n X G)(s:SOk X bx)(hc:CmOk n G c)(k:Nat)(e:Expr)(r:FE)(h:fj c bx k e=some r):DE X e r:=by
 have hE:=hc.E g s;unfold fj at h;split at h
 ·split at h
  ·obtain ⟨fa,e1,h⟩:=Á.mp h;cases h;exact de_lstO (dY hE e1).1
  ·cases h
 ·obtain ⟨q,e1,h⟩:=Á.mp h;cases h;obtain ⟨tg,it,ifs,rfl,_,k⟩:=ydl g s hc e1;exact ygh s.calm k.ck k.hix k.h1 k.h2 k.h3 k.h4 k.hs
 ·split at h
  ·rename_i z
   simp only[Å,List.isEmpty_iff]at z;cases h;obtain ⟨rfl,rfl⟩:=z;exact de_dicO
  ·exact qgo g s hc h
 ·split at h
  ·split at h
   ·split at h
    ·rename_i z
     simp only[Å,List.isEmpty_iff]at z;obtain ⟨z,rfl⟩:=z;obtain ⟨f,e1,h⟩:=Á.mp h;cases h;cases Ď z.1.2;obtain ⟨g1,g2,g3⟩:=eU s z.1.1;exact de_bi bi_lstO (yke z.2 (hE _ _ e1) da_nil) g1 (g.bl _ (by decide)) g3 g2 (by rw[Ĩ,z.2];rfl)
    ·cases h
   ·cases h
  ·cases h
 ·cases h
theorem stepT_ok(g:GOk n X G)(s:SOk X bx)(hc:CmOk n G c)(e:Expr)(r:FT)(h:ff G c bx e=some r):DT X e r:=by
 have hE:=hc.E g s;have hT:=hc.T g s;have main:∀e:Expr,(∀whole,isTrue e X.env whole=(do let v <-whole;standAt e.pos;holding [v] (truthy v)))->((c.E bx e).map ò)=some r->DT X e r:=λe he h=>by
  obtain ⟨f,e1,h⟩:=Á.mp h;cases h;exact dt_val (hE _ _ e1) he
 cases e with
 |UnaryOp op a p=>
  cases op<;>first|(cases h;done)|skip
  obtain ⟨f,e1,h⟩:=Á.mp (show (c.T bx a).map χ=some r from h);cases h;exact dt_not (hT _ _ e1)
 |BoolOp op es p=>exact (cTs_ok hT (show cTs (c.T bx) (anB op) es=some r from h)).dt
 |IfExp t a b p=>cases h
 |Compare a ops bs p=>
  unfold ff at h;dsimp only at h;split at h
  ·obtain ⟨f,e1,h⟩:=bnd h;obtain ⟨f2,e2,h⟩:=Á.mp h;cases h
   rename_i op b _
   cases e0:cTab G bx op b f with
   |some q=>rw[e0]at e2;cases e2;exact (yi0 g s (hE _ _ e1) e0).2
   |none=>
    rw[e0,æ]at e2;exact (yjf g.room (hE _ _ e1) (λg' e=>hE _ _ e) e2).2
  ·cases h
 |_=>exact main _ (λ_=>rfl) h
theorem qjs(g:GOk n X G)(s:SOk X bx)(hc:CmOk n G c){x:Str}{e:Expr}{r:FE}(h:cVal c bx x e=some r):DE X e r:=by
 unfold cVal at h;split at h
 ·rename_i k _
  cases e0:c.O bx k e with
  |some q=>rw[e0]at h;cases h;exact hc.O g s _ _ _ e0
  |none=>rw[e0,æ]at h;exact hc.E g s _ _ h
 ·exact hc.E g s _ _ h
theorem stepS_ok(g:GOk n X G)(s:SOk X bx)(hc:CmOk n G c)(e:Stmt)(r:FS)(h:qf0 G c bx e=some r):DS X e r:=by
 have hE:=hc.E g s;have hT:=hc.T g s;have hS:=hc.S g s;cases e with
 |Return v p=>
  unfold qf0 at h;cases v with
  |none=>cases h;exact ds_retN
  |some e=>
   obtain ⟨f,e1,h⟩:=Á.mp h;cases h;exact ds_ret (hE _ _ e1)
 |Pass p=>cases h;exact ds_pass
 |Raise a b p=>cases h;exact ds_no
 |Expr e p=>
  unfold qf0 at h;dsimp only at h;split at h
  ·rename_i z
   obtain ⟨f,e1,h⟩:=Á.mp h;cases h;exact ds_expr z (hE _ _ e1)
  ·cases h
 |If t a b p=>
  unfold qf0 at h;dsimp only at h;obtain ⟨ft,e1,h⟩:=bnd h;obtain ⟨f,e2,h⟩:=bnd h;obtain ⟨f3,e3,h⟩:=Á.mp h;cases h;exact ds_if (hT _ _ e1) (yfk hS e2) (yfk hS e3)
 |For tg it body els p=>
  unfold qf0 at h;dsimp only at h;split at h
  ·rename_i z
   simp only[Å]at z;cases els with
   |cons _ _=>cases z.1
   |nil=>
    obtain ⟨fi,e1,h⟩:=bnd h;obtain ⟨gg,e2,h⟩:=bnd h;obtain ⟨fs,e3,h⟩:=Á.mp h;cases h;exact ds_for (by rw[s.xe];exact PassesOwn.never) s.calm (hc.I g s _ _ _ e1) (cTg_ok s e2) (yfk hS e3) z.2
  ·cases h
 |Assign tgs e p=>
  unfold qf0 at h;dsimp only at h;split at h
  ·split at h
   ·rename_i x p'
    obtain ⟨i,e1,h⟩:=bnd h;have hw:=yeh s e1;split at h
    ·obtain ⟨q,e2,h⟩:=Á.mp h;cases h;obtain ⟨tg,it,ifs,rfl,_,k⟩:=ydl g s hc e2;exact ds_setC hw s.calm k.ck k.hix k.h1 k.h2 k.h3 k.h4 k.hs
    ·split at h
     ·rename_i z
      obtain ⟨f,e2,h⟩:=Á.mp h;cases h;exact ds_set hw z (qjs g s hc e2)
     ·cases h
   ·rename_i es j p'
    split at h
    ·rename_i z
     simp only[Å]at z;obtain ⟨ts,e1,h⟩:=bnd h;obtain ⟨f,e2,h⟩:=Á.mp h;cases h;obtain ⟨rfl,h2⟩:=qi1 s e1;exact ds_asg s.calm h2 z.1 z.2 (hE _ _ e2)
    ·cases h
   ·rename_i o i p'
    split at h
    ·rename_i z
     simp only[Å]at z;obtain ⟨f,e1,h⟩:=bnd h;obtain ⟨f2,e2,h⟩:=bnd h;obtain ⟨f3,e3,h⟩:=Á.mp h;cases h;exact ds_sub' g.room z.1 (hE _ _ e1) (hE _ _ e2) (hE _ _ e3) (ass_sub z.2)
    ·cases h
   ·rename_i o nm p'
    split at h
    ·rename_i z
     obtain ⟨cs,e1,h⟩:=bnd h;obtain ⟨f,e2,h⟩:=bnd h;obtain ⟨f3,e3,h⟩:=Á.mp h;cases h;exact ds_fld (g.flds nm cs e1) (hE _ _ e2) (qjs g s hc e3) z
    ·cases h
   ·cases h
  ·cases h
 |_=>cases h
end
theorem stepH_ok(g:GOk n X G)(s:SOk X bx)(hc:CmOk n G c)(e:Expr)(r:FE)(h:(cW G c bx e).or (G.hk bx (c.E bx) e)=some r):DE X e r:=by
 cases e0:cW G c bx e with
 |some q=>rw[e0]at h;cases h;exact stepE_ok g s hc e r e0
 |none=>rw[e0,æ]at h;exact g.hk g.room g.bl g.tupN s (hc.E g s) e r h
theorem cm_ok:∀k,CmOk n G (cm G k)
 |0=>by constructor<;>(intros;rename_i h;cases h)
 |k+1=>by
  have ih:=cm_ok (n:=n) (G:=G) k;exact ⟨λg s e f h=>stepH_ok g s ih e f h,λg s=>stepO_ok g s ih,λg s=>stepT_ok g s ih,λg s tg it f h=>(cI_ok g s (ih.E g s) h).1,λg s=>stepS_ok g s ih⟩
end Dp
namespace Dp
open PySem L2 PyProof.Rows Mx
noncomputable def eA(f:Nat->Option Nat):DV->Option DV
 |.d x=>some (.d x)
 |.r i=>(f i).map .r
noncomputable def bc(f:Nat->Option Nat):List DV->Option (List DV)
 |[]=>some []
 |e::es=>(eA f e).bind λa=>(bc f es).map (a :: ·)
noncomputable def eB(f:Nat->Option Nat):OD->Option OD
 |.lst es=>(bc f es).map .lst
 |.frz es=>(bc f es).map .frz
 |.scr es=>(bc f es).map .scr
 |.dk ps=>(bc f (ps.map (·.2))).map λvs=>.dk ((ps.map (·.1)).zip vs)
 |.dt ps=>(bc f (ps.map (·.2))).map λvs=>.dt ((ps.map (·.1)).zip vs)
 |.ins c fs=>(bc f (fs.map (·.2))).map λvs=>.ins c ((fs.map (·.1)).zip vs)
noncomputable def bO(f:Nat->Option Nat):OS->Option OS
 |[]=>some []
 |o::os=>(eB f o).bind λa=>(bO f os).map (a :: ·)
noncomputable def bC(is:List Nat)(i:Nat):Option Nat:=is.findIdx? (· == i)
noncomputable def di(is:List Nat)(m:Nat)(j:Nat):Option Nat:=if j<is.length then is[j]? else some (m+(j-is.length))
noncomputable def objs(S:OS):List Nat->Option OS
 |[]=>some []
 |i::is=>(S[i]?).bind λo=>(objs S is).map (o :: ·)
noncomputable def dm:List Nat->OS->OS->OS
 |i::is,o::os,S=>dm is os (S.set i o)
 |_,_,S=>S
noncomputable def cg:DV->List Nat
 |.d _=>[]
 |.r i=>[i]
noncomputable def refsO:OD->List Nat
 |.lst es=>es.flatMap cg
 |.frz es=>es.flatMap cg
 |.scr es=>es.flatMap cg
 |.dk ps=>ps.flatMap λe=>cg e.2
 |.dt ps=>ps.flatMap λe=>cg e.2
 |.ins _ fs=>fs.flatMap λe=>cg e.2
noncomputable def reach(S:OS):Nat->List Nat->List Nat->List Nat
 |0,_,acc=>acc
 |_+1,[],acc=>acc
 |n+1,i::w,acc=>if acc.contains i=true then reach S n w acc else reach S n ((match S[i]? with
  |some o=>refsO o
  |none=>[])++w) (acc++[i])
noncomputable def eI(F:FF):FF:=λds S=>let is:=reach S 1000 (ds.flatMap cg) []
 if is.Nodup then (bc (bC is) ds).bind λds'=>(objs S is).bind λos=>(bO (bC is) os).bind λT=>(F ds' T).bind λp=>(eA (di is S.length) p.1).bind λr=>(bO (di is S.length) p.2).map λT2=>(r,dm is T2 S++T2.drop is.length) else none
section
variable {f:Nat->Option Nat}
theorem qc5:∀{es es':List DV},bc f es=some es'->es'.length=es.length
 |[],es',h=>by cases h;rfl
 |e::es,es',h=>by
  obtain ⟨a,_,h⟩:=bnd h;obtain ⟨b,e2,rfl⟩:=Á.mp h;exact congrArg (· + 1) (qc5 e2)
theorem qew:∀{es es':OS},bO f es=some es'->es'.length=es.length
 |[],es',h=>by cases h;rfl
 |e::es,es',h=>by
  obtain ⟨a,_,h⟩:=bnd h;obtain ⟨b,e2,rfl⟩:=Á.mp h;exact congrArg (· + 1) (qew e2)
theorem ybk:∀{es es':OS}{i:Nat}{o':OD},bO f es=some es'->es'[i]?=some o'->∃o,es[i]?=some o/\eB f o=some o'
 |[],es',i,o',h,g=>by cases h;simp at g
 |e::es,es',i,o',h,g=>by
  obtain ⟨a,e1,h⟩:=bnd h;obtain ⟨b,e2,rfl⟩:=Á.mp h;cases i with
  |zero=>cases g;exact ⟨e,rfl,e1⟩
  |succ i=>exact ybk (i:=i) e2 (by simpa using g)
theorem ydd(h:eB f o=some o'):o'.isDead=o.isDead:=by
 cases o<;>(obtain ⟨b,_,rfl⟩:=Á.mp h;rfl)
theorem qgw:∀{is:List Nat}{os:OS},objs S is=some os->os.length=is.length
 |[],os,h=>by cases h;rfl
 |i::is,os,h=>by
  obtain ⟨a,_,h⟩:=bnd h;obtain ⟨b,e2,rfl⟩:=Á.mp h;exact congrArg (· + 1) (qgw e2)
theorem yc5:∀{is:List Nat}{os:OS}{j i:Nat},objs S is=some os->is[j]?=some i->∃o,os[j]?=some o/\S[i]?=some o
 |[],os,j,i,h,g=>by simp at g
 |k::is,os,j,i,h,g=>by
  obtain ⟨a,e1,h⟩:=bnd h;obtain ⟨b,e2,rfl⟩:=Á.mp h;cases j with
  |zero=>cases g;exact ⟨a,rfl,e1⟩
  |succ j=>exact yc5 (j:=j) e2 (by simpa using g)
theorem ybg:∀{is:List Nat}{os S:OS},(dm is os S).length=S.length
 |[],_,_=>rfl
 |_::_,[],_=>rfl
 |i::is,o::os,S=>by
  show (dm is os (S.set i o)).length=_;rw[ybg,Ł]
theorem ydc:∀{is:List Nat}{os S:OS}{i:Nat},i∉is->(dm is os S)[i]?=S[i]?
 |[],_,_,_,_=>rfl
 |_::_,[],_,_,_=>rfl
 |k::is,o::os,S,i,h=>by
  show (dm is os (S.set k o))[i]?=_;rw[ydc λz=>h (Ê _ z),í λz=>h (by rw[z];exact Ì)]
theorem yfg:∀{is:List Nat}{os S:OS}{j i:Nat},is.Nodup->is.length<=os.length->is[j]?=some i->i<S.length->(dm is os S)[i]?=os[j]?
 |[],_,_,j,_,_,_,h,_=>by simp at h
 |_::_,[],_,_,_,_,l,_,_=>by simp at l
 |k::is,o::os,S,j,i,n,l,h,hi=>by
  rw[nodup_cons]at n;show (dm is os (S.set k o))[i]?=_;cases j with
  |zero=>
   cases h;rw[ydc n.1,ą hi];rfl
  |succ j=>exact yfg n.2 (by simpa using l) (by simpa using h) (by rw[Ł];exact hi)
theorem posF_is(h:bC is i=some j):is[j]?=some i:=by
 obtain ⟨h1,h2,_⟩:=Β.mp h;rw[Í h1,Ď h2]
end
section
variable {K:Kc}{L L':Addr->Prop}{x y:Wd}{f:Nat->Option Nat}
theorem HvA.ren(hV:∀v e e',eA f e=some e'->Hv K L x v e->Hv K L' y v e'):∀{vs:List V}{es es':List DV},bc f es=some es'->HvA K L x vs es->HvA K L' y vs es'
 |_,[],es',h,.nil=>by cases h;exact .nil
 |_,e::es,es',h,.cons a r=>by
  obtain ⟨b,e1,h⟩:=bnd h;obtain ⟨c,e2,rfl⟩:=Á.mp h;exact .cons (hV _ _ _ e1 a) (HvA.ren hV e2 r)
theorem yeg:∀{ks:List α}{vs:List β},vs.length=ks.length->(ks.zip vs).map (·.1)=ks/\(ks.zip vs).map (·.2)=vs
 |[],[],_=>⟨rfl,rfl⟩
 |[],_::_,h=>by cases h
 |_::_,[],h=>by cases h
 |k::ks,v::vs,h=>by
  obtain ⟨h1,h2⟩:=yeg (ks:=ks) (vs:=vs) (Nat.succ.inj h);exact ⟨congrArg (k :: ·) h1,congrArg (v :: ·) h2⟩
theorem Ho.ren(hV:∀v e e',eA f e=some e'->Hv K L x v e->Hv K L' y v e')(e:∀u,x.H a=some u->y.H a=some u)(d:Same (x.hp L) (y.hp L'))(h:eB f o=some o')(q:Ho K L x a o):Ho K L' y a o':=by
 cases o with
 |lst es=>
  obtain ⟨es',e1,rfl⟩:=Á.mp h;obtain ⟨vs,h1,h2⟩:=q;exact ⟨vs,e _ h1,h2.ren hV e1⟩
 |frz es=>
  obtain ⟨es',e1,rfl⟩:=Á.mp h;obtain ⟨vs,h1,h2⟩:=q;exact ⟨vs,d _ _ h1,h2.ren hV e1⟩
 |scr es=>
  obtain ⟨es',e1,rfl⟩:=Á.mp h;obtain ⟨vs,h1,h2⟩:=q;exact ⟨vs,Rd.same' d h1,h2.ren hV e1⟩
 |dk ps=>
  obtain ⟨es',e1,rfl⟩:=Á.mp h;obtain ⟨vs,h1,h2,h3⟩:=q;obtain ⟨z1,z2⟩:=yeg (ks:=ps.map (·.1)) (vs:=es') (by rw[qc5 e1,Ð,Ð]);exact ⟨vs,e _ h1,by rw[z1];exact h2,by rw[z2];exact h3.ren hV e1⟩
 |dt ps=>
  obtain ⟨es',e1,rfl⟩:=Á.mp h;obtain ⟨vs,h1,h2,h3,h4⟩:=q;obtain ⟨z1,z2⟩:=yeg (ks:=ps.map (·.1)) (vs:=es') (by rw[qc5 e1,Ð,Ð]);exact ⟨vs,e _ h1,by rw[z1];exact h2,λq hq=>⟨Dt.same d (h3 q hq).at_,(h3 q hq).key,(h3 q hq).dp⟩,by rw[z2];exact h4.ren hV e1⟩
 |ins c fs=>
  obtain ⟨es',e1,rfl⟩:=Á.mp h;obtain ⟨C,dx,vs,h0,h1,h2⟩:=q;obtain ⟨z1,z2⟩:=yeg (ks:=fs.map (·.1)) (vs:=es') (by rw[qc5 e1,Ð,Ð]);exact ⟨C,dx,vs,h0,by rw[z1];exact e _ h1,by rw[z2];exact h2.ren hV e1⟩
end
noncomputable def cD(φ:List Addr)(is:List Nat):List Addr:=is.map λi=>(φ[i]?).getD 0
section
variable {K:Kc}{L:Addr->Prop}{x:Wd}{F:FF}{vs:List V}{ds:List DV}{r':DV}{S':OS}
theorem loc_ok(k:Ok K L x)(hv:HvA K L x vs ds)(h:eI F ds x.S=some (r',S')):∃L' x' ds' r T',x'.H=x.H/\Ok K L' x'/\HvA K L' x' vs ds'/\F ds' x'.S=some (r,T')/\∀v y,Ex x' y->y.S=T'->Ok K L' y->Hv K L' y v r->∃z,z.H=y.H/\Ex x z/\z.S=S'/\Ok K L z/\Hv K L z v r':=by
 unfold eI at h;dsimp only at h;generalize reach x.S 1000 (ds.flatMap cg) []=is at h;split at h
 ·rename_i nd
  obtain ⟨ds',e1,h⟩:=bnd h;obtain ⟨os,e2,h⟩:=bnd h;obtain ⟨T,e3,h⟩:=bnd h;obtain ⟨⟨r,T'⟩,e4,h⟩:=bnd h;obtain ⟨r2,e5,h⟩:=bnd h;obtain ⟨T2,e6,h⟩:=Á.mp h;cases h;have la:(cD x.φ is).length=is.length:=Ð _;have lT:T.length=is.length:=by rw[qew e3,qgw e2]
  -- where they lie
  have at_:∀j i,is[j]?=some i->∃a o,x.φ[i]?=some a/\(cD x.φ is)[j]?=some a/\x.S[i]?=some o/\os[j]?=some o:=λj i hj=>by
   obtain ⟨o,h1,h2⟩:=yc5 e2 hj;have hi:=(É.mp h2).1;rw[<-k.len]at hi;refine ⟨_,o,Í hi,?_,h2,h1⟩;unfold cD;rw[Ĉ,hj];show some ((x.φ[i]?).getD 0)=_;rw[Í hi];rfl
  have inv:∀j a,(cD x.φ is)[j]?=some a->∃i,is[j]?=some i/\x.φ[i]?=some a:=λj a hj=>by
   have hl:=(É.mp hj).1;rw[la]at hl;obtain ⟨a',o,h1,h2,_⟩:=at_ j _ (Í hl)
   rw[hj]at h2;cases h2;exact ⟨_,Í hl,h1⟩
  have isIn:∀a,a∈cD x.φ is->a∈x.φ:=λa ha=>by
   obtain ⟨j,hj⟩:=Κ ha;obtain ⟨i,_,h2⟩:=inv j a hj;exact ć h2
  have lvx:∀b,Wd.Lv ⟨cD x.φ is,T,x.H⟩ b->x.Lv b:=by
   rintro b ⟨j,o',g1,g2,g3⟩;obtain ⟨i,h1,h2⟩:=inv j b g1;obtain ⟨o,g4,g5⟩:=ybk e3 g2;obtain ⟨o2,h3,h4⟩:=yc5 e2 h1;rw[g4]at h3;cases h3;exact ⟨i,o,h2,h4,by rw[<-ydd g5];exact g3⟩
  have sm:Same (x.hp L) (Wd.hp (λb=>L b\/(x.Lv b/\b∉cD x.φ is)) ⟨cD x.φ is,T,x.H⟩):=yas λb u n e=>⟨e,λz=>n (z.elim (λz=>z.elim .inl λz=>.inr z.1) λz=>.inr (lvx b z))⟩;have hV:∀v e e',eA (bC is) e=some e'->Hv K L x v e->Hv K (λb=>L b\/(x.Lv b/\b∉cD x.φ is)) ⟨cD x.φ is,T,x.H⟩ v e':=λv e e' h q=>by
   cases e with
   |d c=>cases h;exact Dt.same sm q
   |r i=>
    obtain ⟨j,e7,rfl⟩:=Á.mp h;obtain ⟨a,h1,rfl⟩:=q;obtain ⟨a',o,h2,h3,_⟩:=at_ j i (posF_is e7)
    rw[h1]at h2;cases h2;exact ⟨a,h3,rfl⟩
  have lvIn:∀b,x.Lv b->b∈x.φ:=λb ⟨i,o,g1,_⟩=>ć g1;refine ⟨λb=>L b\/(x.Lv b/\b∉cD x.φ is),⟨cD x.φ is,T,x.H⟩,ds',r,T',rfl,⟨by rw[la,lT],?_,λa ha z=>z.elim (k.dis a (isIn a ha)) λz=>z.2 ha,λa z=>z.elim (λz=>z.elim (λz=>k.liv a (.inl z)) λz=>k.liv a (.inr (lvIn a z.1))) λz=>k.liv a (.inr (isIn a z)),λj o' a g1 g2=>?_⟩,hv.ren hV e1,e4,λv y ex ey ky hy=>?_⟩
  ·show (cD x.φ is).Nodup;refine List.pairwise_iff_getElem.mpr λi j hi hj hij z=>?_;rw[la]at hi hj;obtain ⟨a1,o1,p1,p2,_⟩:=at_ i _ (Í hi)
   obtain ⟨a2,o2,q1,q2,_⟩:=at_ j _ (Í hj)
   rw[Í (by rw[la];exact hi),z]at p2;rw[Í (by rw[la];exact hj)]at q2;rw[p2]at q2;cases q2;have:=(List.getElem_inj nd).mp (lv_nd k p1 q1);omega
  ·obtain ⟨o,g4,g5⟩:=ybk e3 (show T[j]?=some o' from g1);obtain ⟨i,h1,h2⟩:=inv j a g2;obtain ⟨o2,h3,h4⟩:=yc5 e2 h1;rw[g4]at h3;cases h3;exact (k.obj i o a h4 h2).ren hV (λu e=>e) sm g5
  ·subst ey;have n1:is.length<=y.φ.length:=by
    cases hn:is.length with
    |zero=>exact ķ _
    |succ n=>
     have:=ex.pre n _ (Í (l:=cD x.φ is) (i:=n) (by rw[la];omega));have:=(É.mp this).1;omega
   have l2:T2.length=y.S.length:=qew e6;have pre:∀j i,is[j]?=some i->∃a,x.φ[i]?=some a/\y.φ[j]?=some a:=λj i hj=>by
    obtain ⟨a,o,h1,h2,_⟩:=at_ j i hj
    exact ⟨a,h1,ex.pre j a h2⟩
   have isLt:∀j i,is[j]?=some i->i<x.S.length:=λj i hj=>by
    obtain ⟨a,o,_,_,h,_⟩:=at_ j i hj
    exact (É.mp h).1
   -- the new world
   have zφ:∀i a,(x.φ++y.φ.drop is.length)[i]?=some a->(x.φ[i]?=some a/\i<x.S.length)\/(x.S.length<=i/\y.φ[is.length+(i-x.S.length)]?=some a):=λi a h=>by
    by_cases l:i<x.φ.length
    ·rw[ë l]at h;exact .inl ⟨h,by rw[<-k.len];exact l⟩
    ·rw[ö (by omega),getElem?_drop,k.len]at h;exact .inr ⟨by rw[<-k.len];omega,h⟩
   have zS:∀i o,(dm is T2 x.S++T2.drop is.length)[i]?=some o->(i<x.S.length/\((∃j,is[j]?=some i/\T2[j]?=some o)\/(i∉is/\x.S[i]?=some o)))\/(x.S.length<=i/\T2[is.length+(i-x.S.length)]?=some o):=λi o h=>by
    by_cases l:i<x.S.length
    ·rw[ë (by rw[ybg];exact l)]at h;refine .inl ⟨l,?_⟩;by_cases m:i∈is
     ·obtain ⟨j,hj⟩:=Κ m;rw[yfg nd (by rw[l2,<-ky.len];exact n1) hj l]at h;exact .inl ⟨j,hj,h⟩
     ·rw[ydc m]at h;exact .inr ⟨m,h⟩
    ·rw[ö (by rw[ybg];omega),ybg,getElem?_drop]at h;exact .inr ⟨by omega,h⟩
   have notIn:∀i a,x.φ[i]?=some a->i∉is->a∉cD x.φ is:=λi a h1 m z=>by
    obtain ⟨j,hj⟩:=Κ z;obtain ⟨i2,h2,h3⟩:=inv j a hj;rw[lv_nd k h1 h3]at m;exact m (ć h2)
   have lvz:∀b,Wd.Lv ⟨x.φ++y.φ.drop is.length,dm is T2 x.S++T2.drop is.length,y.H⟩ b->y.Lv b\/(x.Lv b/\b∉cD x.φ is):=by
    rintro b ⟨i,o,g1,g2,g3⟩;rcases zφ i b g1 with ⟨h1,h2⟩|⟨h1,h2⟩<;>rcases zS i o g2 with ⟨q1,q2⟩|⟨q1,q2⟩
    ·rcases q2 with ⟨j,q2,q3⟩|⟨q2,q3⟩
     ·obtain ⟨a,p1,p2⟩:=pre j i q2;rw[h1]at p1;cases p1;obtain ⟨o2,p3,p4⟩:=ybk e6 q3;exact .inl ⟨j,o2,p2,p3,by rw[<-ydd p4];exact g3⟩
     ·exact .inr ⟨⟨i,o,h1,q3,g3⟩,notIn i b h1 q2⟩
    ·omega
    ·omega
    ·obtain ⟨o2,p3,p4⟩:=ybk e6 q2;exact .inl ⟨_,o2,h2,p3,by rw[<-ydd p4];exact g3⟩
   have smz:Same (Wd.hp (λb=>L b\/(x.Lv b/\b∉cD x.φ is)) y) (Wd.hp L ⟨x.φ++y.φ.drop is.length,dm is T2 x.S++T2.drop is.length,y.H⟩):=yas λb u n e=>⟨e,λz=>n (z.elim (λz=>.inl (.inl z)) λz=>(lvz b z).elim .inr λz=>.inl (.inr z))⟩;have hVz:∀v e e',eA (di is x.S.length) e=some e'->Hv K (λb=>L b\/(x.Lv b/\b∉cD x.φ is)) y v e->Hv K L ⟨x.φ++y.φ.drop is.length,dm is T2 x.S++T2.drop is.length,y.H⟩ v e':=λv e e' h q=>by
    cases e with
    |d c=>cases h;exact Dt.same smz q
    |r j=>
     obtain ⟨i,e7,rfl⟩:=Á.mp h;obtain ⟨a,h1,rfl⟩:=q;unfold di at e7;split at e7
     ·obtain ⟨a',p1,p2⟩:=pre j i e7;rw[h1]at p2;cases p2;exact ⟨a,by show (x.φ++_)[i]?=_;rw[ë (É.mp p1).1];exact p1,rfl⟩
     ·cases e7;refine ⟨a,?_,rfl⟩;show (x.φ++_)[x.S.length+(j-is.length)]?=_;rw[ö (by rw[k.len];omega),getElem?_drop,k.len,show is.length+(x.S.length+(j-is.length)-x.S.length)=j by omega];exact h1
   have exz:Ex x ⟨x.φ++y.φ.drop is.length,dm is T2 x.S++T2.drop is.length,y.H⟩:=by
    refine ⟨λi a h=>?_,λb u n e=>?_,ex.al,λi a h g=>?_⟩
    ·show (x.φ++_)[i]?=_;rw[ë (É.mp h).1];exact h
    ·obtain ⟨p1,p2⟩:=ex.kp b u (λz=>n (lvx b z)) e;exact ⟨p1,λz=>(lvz b z).elim p2 λz=>n z.1⟩
    ·rcases zφ i a h with ⟨_,h2⟩|⟨_,h2⟩
     ·rw[k.len]at g;omega
     ·exact ex.fr _ a h2 (by show (cD x.φ is).length<=_;rw[la];omega)
   refine ⟨⟨x.φ++y.φ.drop is.length,dm is T2 x.S++T2.drop is.length,y.H⟩,rfl,exz,rfl,⟨?_,?_,λa ha z=>?_,λa z=>?_,λi o a g1 g2=>?_⟩,hVz v r _ e5 hy⟩
   ·show (x.φ++y.φ.drop is.length).length=(dm is T2 x.S++T2.drop is.length).length;rw[Ó,Ó,ybg,List.length_drop,List.length_drop,l2,k.len,ky.len]
   ·show (x.φ++y.φ.drop is.length).Nodup;rw[nodup_append];refine ⟨k.nd,ky.nd.sublist (List.drop_sublist _ _),λa ha b hb z=>?_⟩;subst z;obtain ⟨j,hj⟩:=Κ hb;rw[getElem?_drop]at hj;exact k.liv a (.inr ha) (ex.fr _ a hj (by show (cD x.φ is).length<=_;rw[la];omega))
   ·rcases ŀ.mp ha with ha|ha
    ·exact k.dis a ha z
    ·exact ky.dis a (am ha) (.inl z)
   ·show y.H a≠none;rcases z with z|z
    ·exact ex.al a (k.liv a (.inl z))
    ·rcases ŀ.mp z with z|z
     ·exact ex.al a (k.liv a (.inr z))
     ·exact ky.liv a (.inr (am z))
   ·rcases zφ i a g2 with ⟨h1,h2⟩|⟨h1,h2⟩<;>rcases zS i o g1 with ⟨q1,q2⟩|⟨q1,q2⟩
    ·rcases q2 with ⟨j,q2,q3⟩|⟨q2,q3⟩
     ·obtain ⟨a',p1,p2⟩:=pre j i q2;rw[h1]at p1;cases p1;obtain ⟨o2,p3,p4⟩:=ybk e6 q3;exact (ky.obj j o2 a p3 p2).ren hVz (λu e=>e) smz p4
     ·refine (k.obj i o a q3 h1).keep exz λu e=>(ex.kp a u (λ⟨j,o',p1,_⟩=>notIn i a h1 q2 (ć p1)) e).1
    ·omega
    ·omega
    ·obtain ⟨o2,p3,p4⟩:=ybk e6 q2;exact (ky.obj _ o2 a p3 h2).ren hVz (λu e=>e) smz p4
 ·cases h
end
noncomputable def eJ(F:FF):FF:=λds S=>(eQ F ds S).or (eI F ds S)
theorem qj4{K:Kc}{F:FF}{vs:List V}{H:Hp}{Q:VK}{E:XK}(h:bj K (eJ F) vs H Q E):bj K F vs H Q E:=by
 obtain ⟨L,x,ds,r,S',rfl,k,hv,h,q⟩:=h;unfold eJ at h;cases e0:eQ F ds x.S with
 |some o=>
  rw[e0]at h;cases h;exact ycl ⟨L,x,ds,r,S',rfl,k,hv,(by unfold dW;rw[e0];rfl),q⟩
 |none=>
  rw[e0,æ]at h;obtain ⟨L',x',ds',r1,T',e1,k',hv',h',back⟩:=loc_ok k hv h;refine ⟨L',x',ds',r1,T',e1,k',hv',h',λv y ex ey ky hy=>?_⟩;obtain ⟨z,z1,z2,z3,z4,z5⟩:=back v y ex ey ky hy;rw[<-z1];exact q v z z2 z3 z4 z5
theorem Has.ofL{K:Kc}{base:Heap}{x:Str}{st:Stmt}{ps N:List Str}{k:Nat}{fs:FS}(F:FnAt K.K K.mg x st ps)(S:FnScope N ps (bw st))
  (hb:∀(f:Addr) (cdv:Æ) (A:Ā) (outer:List Env) (s:Ç) (H:Hp) (E:XK),Room k (A.deeper (envOfC x (bw st) s.heap.objs.size f cdv))->DB (cxOf CX0 K.P K.w K.K K.mg base N x (bw st) f cdv A outer s H E).nox (cR st) fs):Has K.P K.w K.K K.mg base (k+1) x ps (bj K (eJ (Ŧ N.length ps.length fs))):=by
 refine Has.imp (sp:=bj K (Ŧ N.length ps.length fs)) ?_ λvs H Q E h=>qj4 h;refine Has.of F S ?_ ?_
 ·intro vs H Q E h;exact (yb0 (N:=N) (t:=λD σ H=>∃L ρ x r S',x.H=H/\fs ρ x.S=some (r,S')/\Ok K L x/\Rl K L x σ ρ/\OutK K L x S' D r) (λL ρ σ x r S' D h k rl q=>⟨L,ρ,x,r,S',rfl,h,k,rl,q⟩) h).1
 intro f cdv A outer s H vs Q E hr h;obtain ⟨t,h1,h2⟩:=hb f cdv A outer s H E hr;exact ⟨t,h1,(yb0 h2 h).2⟩
end Dp
namespace Dp
open PySem L2 PyProof.Rows Mx
noncomputable def MthOk(K:Kc)(base:Heap)(n:Nat)(m:Str)(ms:List (Str×FF)):Prop:=∀c F,ms.lookup c=some F->∃C k ps,K.mg c=some (.ref C)/\Cls K.K C/\k<=n/\HasM K.P K.w K.K K.mg base C k m ps (bj K F)
noncomputable def FlOk(K:Kc)(cs:List Str)(nm:Str):Prop:=∀c∈cs,∃C,K.mg c=some (.ref C)/\Cls K.K C/\qcx K.K C nm
noncomputable def TbOk(K:Kc)(x:Str)(D:Tab):Prop:=tabB D=true/\∃a,K.mg x=some (.ref a)/\TabK K.K a (cU D)
structure EnvG(K:Kc)(base:Heap)(n:Nat)(G:Gb):Prop where
 fns:∀x F,G.fns.lookup x=some F->∃k ps,k<=n/\Has K.P K.w K.K K.mg base k x ps (bj K F)
 csts:∀x d,G.csts.lookup x=some d->∃v u,K.mg x=some u/\RelV v u/\∀H,Dt K H v d
 bl:∀x∈blN,K.mg x=none
 flds:∀x cs,G.flds.lookup x=some cs->FlOk K cs x
 meths:∀x ms,G.meths.lookup x=some ms->MthOk K base n x ms
 clss:∀x F,G.clss.lookup x=some F->∃C k ps,K.mg x=some (.ref C)/\k+1<=n/\HasI K.P K.w K.K K.mg base C k x ps (bj K F)
 tabs:∀x D,G.tabs.lookup x=some D->TbOk K x D
 tupN:TupN K.K
 hk:HkOk G.hk
noncomputable def yem(N ps:List Str)(sc:Scope):Bool:=
 decide (sc.kind=.function) && !sc.isCoroutine && !sc.isGenerator&&decide N.Nodup&&decide (N.take ps.length=ps)&&ps.all (λx=>decide (sc.names.lookup x=some .local)||decide (sc.names.lookup x=some .cell))&&sc.names.all λy=>decide (y.2≠.free)
theorem yhh(h:yem N ps sc=true):FnScope N ps sc:=by
 unfold yem at h;simp only[Å,Ŕ,decide_eq_true_eq,Û,τ]at h;obtain ⟨⟨⟨⟨⟨⟨h1,h2⟩,h3⟩,h4⟩,h5⟩,h6⟩,h7⟩:=h;exact ⟨h1,h2,h3,h4,h5,h6,λy hy=>h7 y hy⟩
noncomputable def cDef(G:Gb)(st:Stmt)(N ps:List Str)(own:List (Str×Nat)):Option FS:=if yem N ps (bw st)=true then cBs ((cm G 30).S ⟨N,bw st,true,own⟩) (cR st) else none
section
variable {K:Kc}{base:Heap}{n:Nat}{G:Gb}
theorem EnvG.g(e:EnvG K base n G)(hr:Room n (A.deeper (envOfC x sc s.heap.objs.size f cdv))):GOk n (cxOf CX0 K.P K.w K.K K.mg base N x sc f cdv A outer s H E).nox G:=
 ⟨hr,e.fns,e.csts,e.bl,e.flds,e.meths,e.clss,e.tabs,e.tupN,e.hk⟩
theorem qdn{N ps:List Str}{x:Str}{st:Stmt}{own:List (Str×Nat)}{fs:FS}{f:Addr}{cdv:Æ}{A:Ā}{outer:List Env}{s:Ç}{H:Hp}{E:XK}(e:EnvG K base n G)(hr:Room n (A.deeper (envOfC x (bw st) s.heap.objs.size f cdv)))(S:FnScope N ps (bw st))
  (h:cBs ((cm G 30).S ⟨N,bw st,true,own⟩) (cR st)=some fs):DB (cxOf CX0 K.P K.w K.K K.mg base N x (bw st) f cdv A outer s H E).nox (cR st) fs:=
 yfk ((cm_ok 30).S (e.g hr) ⟨rfl,rfl,S.nd,λ_ _=>rfl,rfl,rfl⟩) h
theorem dE{st:Stmt}{N ps:List Str}{own:List (Str×Nat)}{fs:FS}(h:cDef G st N ps own=some fs):FnScope N ps (bw st)/\cBs ((cm G 30).S ⟨N,bw st,true,own⟩) (cR st)=some fs:=by
 unfold cDef at h;split at h
 ·exact ⟨yhh (by assumption),h⟩
 ·cases h
noncomputable def F_(n m:Nat)(fs:FS):FF:=dW (Ŧ n m fs)
theorem yiy{x:Str}{st:Stmt}{N ps:List Str}(own:List (Str×Nat)){fs:FS}(e:EnvG K base n G)(F:FnAt K.K K.mg x st ps)(h:cDef G st N ps own=some fs):Has K.P K.w K.K K.mg base (n+1) x ps (bj K (F_ N.length ps.length fs)):=
 Has.ofF F (dE h).1 λf cdv A outer s H E hr=>qdn e hr (dE h).1 (dE h).2
theorem hasM_def{C:Addr}{m qual:Str}{st:Stmt}{N ps:List Str}(own:List (Str×Nat)){fs:FS}(e:EnvG K base n G)(F:qjr K.K C m qual st ps)(h:cDef G st N ps own=some fs):HasM K.P K.w K.K K.mg base C (n+1) m ps (bj K (F_ N.length ps.length fs)):=by
 obtain ⟨f,fd,h1,h2,h3⟩:=F;have P:∀vs H Q E,bj K (F_ N.length ps.length fs) vs H Q E->vs.length=ps.length/\_:=λvs H Q E h=>yb0 (N:=N) (ps:=ps) (t:=λD σ H=>∃L ρ x r S',x.H=H/\fs ρ x.S=some (r,S')/\Ok K L x/\Rl K L x σ ρ/\OutK K L x S' D r) (λL ρ σ x r S' D h k rl q=>⟨L,ρ,x,r,S',rfl,h,k,rl,q⟩) (ycl h);refine ⟨f,fd,h1,h3,h2.ok (dE h).1 (λvs H Q E h=>(P vs H Q E h).1) λcdv A outer s H vs Q E hr hs=>?_⟩;obtain ⟨t,h1,h2⟩:=@qdn K base n G N ps _ st own fs f cdv A outer s H E e hr (dE h).1 (dE h).2;exact ⟨t,h1,(yb0 h2 (ycl hs)).2⟩
noncomputable def FL(n m:Nat)(fs:FS):FF:=eJ (Ŧ n m fs)
theorem has_defL{x:Str}{st:Stmt}{N ps:List Str}(own:List (Str×Nat)){fs:FS}(e:EnvG K base n G)(F:FnAt K.K K.mg x st ps)(h:cDef G st N ps own=some fs):Has K.P K.w K.K K.mg base (n+1) x ps (bj K (FL N.length ps.length fs)):=
 Has.ofL F (dE h).1 λf cdv A outer s H E hr=>qdn e hr (dE h).1 (dE h).2
theorem qil{C:Addr}{m qual:Str}{st:Stmt}{N ps:List Str}(own:List (Str×Nat)){fs:FS}(e:EnvG K base n G)(F:qjr K.K C m qual st ps)(h:cDef G st N ps own=some fs):HasM K.P K.w K.K K.mg base C (n+1) m ps (bj K (FL N.length ps.length fs)):=by
 obtain ⟨f,fd,h1,h2,h3⟩:=F;have P:∀vs H Q E,bj K (FL N.length ps.length fs) vs H Q E->vs.length=ps.length/\_:=λvs H Q E h=>yb0 (N:=N) (ps:=ps) (t:=λD σ H=>∃L ρ x r S',x.H=H/\fs ρ x.S=some (r,S')/\Ok K L x/\Rl K L x σ ρ/\OutK K L x S' D r) (λL ρ σ x r S' D h k rl q=>⟨L,ρ,x,r,S',rfl,h,k,rl,q⟩) (qj4 h);refine ⟨f,fd,h1,h3,h2.ok (dE h).1 (λvs H Q E h=>(P vs H Q E h).1) λcdv A outer s H vs Q E hr hs=>?_⟩;obtain ⟨t,h1,h2⟩:=@qdn K base n G N ps _ st own fs f cdv A outer s H E e hr (dE h).1 (dE h).2;exact ⟨t,h1,(yb0 h2 (qj4 hs)).2⟩
theorem Has.up{k:Nat}{x:Str}{ps:List Str}{sp:Sp}(h:EnvG K base n G):EnvG K base (n+1) G:=
 ⟨λx F e=>let ⟨k,ps,h1,h2⟩:=h.fns x F e;⟨k,ps,by omega,h2⟩,h.csts,h.bl,h.flds,λx ms e c F q=>let ⟨C,k,ps,h1,h2,h3,h4⟩:=h.meths x ms e c F q;⟨C,k,ps,h1,h2,by omega,h4⟩,λx F e=>let ⟨C,k,ps,h1,h2,h3⟩:=h.clss x F e;⟨C,k,ps,h1,by omega,h3⟩,h.tabs,h.tupN,h.hk⟩
noncomputable def Gb.fn(G:Gb)(x:Str)(F:FF):Gb:={ G with fns:=(x,F)::G.fns }
noncomputable def Gb.cls(G:Gb)(x:Str)(F:FF):Gb:={ G with clss:=(x,F)::G.clss }
noncomputable def addM(ms:List (Str×List (Str×FF)))(m c:Str)(F:FF):List (Str×List (Str×FF)):=match ms.lookup m with
 |some l=>(m,(c,F)::l)::ms
 |none=>(m,[(c,F)])::ms
noncomputable def Gb.meth(G:Gb)(m c:Str)(F:FF):Gb:={ G with meths:=addM G.meths m c F }
theorem yar{α:Type}{l:List (Str×α)}{x y:Str}{a b:α}(h:((x,a)::l).lookup y=some b):(y=x/\b=a)\/l.lookup y=some b:=by
 rw[Ĕ]at h;cases e:y == x with
 |true=>rw[e]at h;cases h;exact .inl ⟨Ď e,rfl⟩
 |false=>rw[e]at h;exact .inr h
theorem EnvG.fn{x:Str}{ps:List Str}{F:FF}(e:EnvG K base n G)(h:Has K.P K.w K.K K.mg base (n+1) x ps (bj K F)):EnvG K base (n+1) (G.fn x F):=by
 have u:=Has.up (k:=0) (x:=x) (ps:=[]) (sp:=λ_ _ _ _=>True) e;refine ⟨λy F' q=>?_,u.csts,u.bl,u.flds,u.meths,u.clss,u.tabs,u.tupN,u.hk⟩;rcases yar q with ⟨rfl,rfl⟩|q
 ·exact ⟨_,_,Ò _,h⟩
 ·exact u.fns y F' q
theorem EnvG.meth{m c:Str}{C:Addr}{ps:List Str}{F:FF}(e:EnvG K base n G)(hC:K.mg c=some (.ref C))(cl:Cls K.K C)(h:HasM K.P K.w K.K K.mg base C (n+1) m ps (bj K F)):EnvG K base (n+1) (G.meth m c F):=by
 have u:=Has.up (k:=0) (x:=m) (ps:=[]) (sp:=λ_ _ _ _=>True) e;refine ⟨u.fns,u.csts,u.bl,u.flds,λy ms q c' F' r=>?_,u.clss,u.tabs,u.tupN,u.hk⟩;have one:c'=c->F'=F->∃C k ps,K.mg c'=some (.ref C)/\Cls K.K C/\k<=n+1/\HasM K.P K.w K.K K.mg base C k m ps (bj K F'):=λh1 h2=>by subst h1 h2;exact ⟨C,_,_,hC,cl,Ò _,h⟩
 have q':(addM G.meths m c F).lookup y=some ms:=q;unfold addM at q';split at q'
 ·rename_i l hl
  rcases yar q' with ⟨rfl,rfl⟩|q'
  ·rcases yar r with ⟨h1,h2⟩|r
   ·exact one h1 h2
   ·exact u.meths y l hl c' F' r
  ·exact u.meths y ms q' c' F' r
 ·rcases yar q' with ⟨rfl,rfl⟩|q'
  ·rcases yar r with ⟨h1,h2⟩|r
   ·exact one h1 h2
   ·cases r
  ·exact u.meths y ms q' c' F' r
theorem EnvG.cls{c:Str}{C:Addr}{k:Nat}{ps:List Str}{F:FF}(e:EnvG K base n G)(hk:k+1<=n+1)(h:HasI K.P K.w K.K K.mg base C k c ps (bj K F)):EnvG K base (n+1) (G.cls c F):=by
 have u:=Has.up (k:=0) (x:=c) (ps:=[]) (sp:=λ_ _ _ _=>True) e;refine ⟨u.fns,u.csts,u.bl,u.flds,u.meths,λy F' q=>?_,u.tabs,u.tupN,u.hk⟩;rcases yar q with ⟨rfl,rfl⟩|q
 ·obtain ⟨f,fd,h0,h1,h2,h3⟩:=h;exact ⟨C,k,ps,h0,hk,f,fd,h0,h1,h2,h3⟩
 ·exact u.clss y F' q
end
end Dp
namespace Dp
open PySem L2 PyProof.Rows Mx
noncomputable def val(F:FF)(dd:List Â):Option Â:=match F (dd.map .d) [] with
 |some (.d d,_)=>some d
 |_=>none
theorem F_val(h:val (F_ n m fs) dd=some d)(S:OS):F_ n m fs (dd.map .d) S=some (.d d,S):=by
 unfold val at h;split at h
 ·rename_i d' S' e
  cases h;show dW (Ŧ n m fs) (dd.map .d) S=_;have e:dW (Ŧ n m fs) (dd.map .d) []=some (.d d,S'):=e;unfold dW eQ at e ⊢;rw[eF]at e ⊢;simp only[Ē]at e ⊢;cases e1:Ŧ n m fs (dd.map .d) [] with
  |none=>rw[e1]at e;cases e
  |some p=>
   obtain ⟨r,S1⟩:=p;rw[e1]at e;simp only[Ē]at e ⊢;cases e2:fz r S1 with
   |none=>
    rw[e2]at e;simp only[Option.map_none,æ]at e;cases e;cases e2
   |some q=>
    obtain ⟨d2,S2⟩:=q;rw[e2]at e;simp only[Option.map_some,Option.some_or]at e ⊢;cases e;rfl
 ·cases h
theorem dM(h:Ŧ n m fs (dd.map .d) []=some (r,S1))(hf:fz r S1=some (d,S2)):val (F_ n m fs) dd=some d:=by
 have:F_ n m fs (dd.map .d) []=some (.d d,[]):=by
  show dW (Ŧ n m fs) (dd.map .d) []=_;unfold dW eQ;rw[eF];simp only[Ē];rw[h];simp only[Ē];rw[hf];rfl
 unfold val;rw[this]
theorem ydv(h:datas ds=none):F_ n m fs ds S=Ŧ n m fs ds S:=by
 show dW (Ŧ n m fs) ds S=_;unfold dW eQ;rw[h];rfl
theorem ca(hl:ds.length=m)(h:fs (ds.map some++Ă (n-ds.length) none) S=some (.rt d,S')):Ŧ n m fs ds S=some (d,S'):=by
 unfold Ŧ;rw[if_pos hl,h];rfl
section
variable {f g:FS}{e:FE}{fa:FA}{ft:FT}{ρ ρ':DEnv}{S S' S'':OS}{d v:DV}{r:Option (Out×OS)}
theorem Ş(h1:f ρ S=some (.nx ρ',S'))(h2:g ρ' S'=r):Ï f g ρ S=r:=by
 unfold Ï;rw[h1];exact h2
theorem b9(h1:f ρ S=some (.rt d,S')):Ï f g ρ S=some (.rt d,S'):=by
 unfold Ï;rw[h1];rfl
theorem bI(h:e ρ S=some (v,S')):Č e (Đ i) ρ S=some (.nx (ρ.set i (some v)),S'):=by
 unfold Č;rw[h];rfl
theorem eE(h:e ρ S=some (v,S')):Ć e ρ S=some (.rt v,S'):=by
 unfold Ć;rw[h];rfl
theorem qcy(h:e ρ S=some (v,S')):ř e ρ S=some (.nx ρ,S'):=by
 unfold ř;rw[h];rfl
theorem yh5(h:ft ρ S=some (true,S'))(h2:f ρ S'=r):Ĥ ft f g ρ S=r:=by
 unfold Ĥ;rw[h];exact h2
theorem qf9(h:ft ρ S=some (false,S'))(h2:g ρ S'=r):Ĥ ft f g ρ S=r:=by
 unfold Ĥ;rw[h];exact h2
theorem ś(h1:e ρ S=some (v,S'))(h2:fa ρ S'=some (es,S'')):Ñ e fa ρ S=some (v::es,S''):=by
 unfold Ñ;rw[h1];show ((fa ρ S').bind _)=_;rw[h2];rfl
theorem it_l(h:e ρ S=some (.d (.list dd),S')):Ų e ρ S=some (dd.map .d,S'):=by
 unfold Ų;rw[h];rfl
theorem it_t(h:e ρ S=some (.d (.tuple dd),S')):Ų e ρ S=some (dd.map .d,S'):=by
 unfold Ų;rw[h];rfl
theorem len_t:az [.d (.tuple dd)] S=some (.d (.int dd.length),S):=by
 show some (DV.d (.int ((dd.map DV.d).length:Nat)),S)=_;rw[Ð]
theorem b6(h1:fa ρ S=some (es,S'))(h2:F es S'=o):č F fa ρ S=o:=by
 unfold č;rw[h1];exact h2
theorem bU{n m:Nat}{fs:FS}{dd:List Â}{d:Â}(h1:fa ρ S=some (dd.map .d,S'))(h2:val (F_ n m fs) dd=some d):č (F_ n m fs) fa ρ S=some (.d d,S'):=b6 h1 (F_val h2 S')
theorem op_eq{h:G2}{f g:FE}{a b:DV}{o:Option (DV×OS)}(h1:f ρ S=some (a,S'))(h2:g ρ S'=some (b,S''))(h3:h a b S''=o):ß h f g ρ S=o:=by
 unfold ß;rw[h1];show ((g ρ S').bind _)=_;rw[h2];exact h3
theorem yf4(h:e ρ S=some (.d (.bool b),S')):ò e ρ S=some (b,S'):=by
 unfold ò;rw[h];rfl
theorem dj(h1:fi ρ S=some (es,S'))(h2:Ľ tg f es ρ S'=r):ņ fi tg f ρ S=r:=by
 unfold ņ;rw[h1];exact h2
theorem yha{tg:FG}{R:DV->OS->Prop}:∀(es:List DV) (P:Nat->DEnv->OS->Prop) {ρ:DEnv}{S:OS},P 0 ρ S->
  (∀k x ρ S,es[k]?=some x->P k ρ S->∃ρ1,tg x ρ S=some ρ1/\∃o S',f ρ1 S=some (o,S')/\(∀ρ',o=.nx ρ'->P (k+1) ρ' S')/\(∀d,o=.rt d->R d S'))->
  ∃o S',Ľ tg f es ρ S=some (o,S')/\(∀ρ',o=.nx ρ'->P es.length ρ' S')/\(∀d,o=.rt d->R d S')
 |[],P,ρ,S,h0,_=>⟨_,_,rfl,(λρ' e=>by cases e;exact h0),(λd e=>by cases e)⟩
 |x::es,P,ρ,S,h0,st=>by
  obtain ⟨ρ1,h1,o,S',h2,h3,h4⟩:=st 0 x ρ S rfl h0;cases o with
  |rt d=>
   refine ⟨.rt d,S',?_,(λ_ e=>by cases e),h4⟩;unfold Ľ;rw[h1];simp only[Ē];rw[h2];rfl
  |nx ρ'=>
   obtain ⟨o,S2,g1,g2,g3⟩:=yha es (λk=>P (k+1)) (h3 ρ' rfl) λk x ρ S hk hp=>st (k+1) x ρ S hk hp;refine ⟨o,S2,?_,g2,g3⟩;unfold Ľ;rw[h1];simp only[Ē];rw[h2];exact g1
theorem ycn{fg:FG}{ft:FT}{f:FE}{ρ:DEnv}:∀(es:List DV) (g:DV->Option DV) (P:OS->Prop) {S:OS},P S->
  (∀x∈es,∀S,P S->∃ρ1,fg x ρ S=some ρ1/\∃b S1,ft ρ1 S=some (b,S1)/\((b=false/\g x=none/\P S1)\/(b=true/\∃y S2,f ρ1 S1=some (y,S2)/\g x=some y/\P S2)))->
  ∃S',bf fg ft f ρ es S=some (es.filterMap g,S')/\P S'
 |[],g,P,S,h0,_=>⟨S,rfl,h0⟩
 |x::es,g,P,S,h0,st=>by
  obtain ⟨ρ1,h1,b,S1,h2,h3⟩:=st x Ì S h0;have st':=λx hx=>st x (Ê _ hx);rcases h3 with ⟨rfl,h3,h4⟩|⟨rfl,y,S2,h3,h4,h5⟩
  ·obtain ⟨S',g1,g2⟩:=ycn es g P h4 st';refine ⟨S',?_,g2⟩;unfold bf;rw[h1];simp only[Ē];rw[h2,Ę,h3];exact g1
  ·obtain ⟨S',g1,g2⟩:=ycn es g P h5 st';refine ⟨S',?_,g2⟩;unfold bf;rw[h1];simp only[Ē];rw[h2,Ę,h4];simp only[if_true,Ē];rw[h3];simp only[Ē];rw[g1];rfl
theorem fzA_d:∀dd:List Â,d8 (dd.map .d) S=some (dd,S)
 |[]=>rfl
 |d::dd=>by
  show ((fz (.d d) S).bind λp=>(d8 (dd.map .d) p.2).bind λq=>some (p.1::q.1,q.2))=_;show ((d8 (dd.map .d) S).bind λq=>some (d::q.1,q.2))=_;rw[fzA_d dd];rfl
theorem qd1{ix:List (Option Nat)}{fi:FA}{fg:FG}{ft:FT}{f:FE}{es:List DV}{dd:List Â}(h1:fi ρ S=some (es,S'))(h2:bf fg ft f (b4 ix ρ) es S'=some (dd.map .d,S''))(hl:dd.length<=most):Į false ix fi fg ft f ρ S=some (.d (.list dd),S''):=by
 unfold Į;rw[h1];show ((bf fg ft f (b4 ix ρ) es S').bind _)=_;rw[h2];show mkL false (dd.map .d) S''=_;unfold mkL;rw[if_pos (by rw[Ð];exact hl),fzA_d];rfl
end
end Dp
namespace Dp
open PySem L2 PyProof.Rows Mx
section
variable {f g h:FE}{ρ:DEnv}{S S' S'':OS}{i j:Nat}{ps:List (Â×DV)}{k:Â}{v d:DV}
theorem ybz(h1:f ρ S=some (.r i,S'))(h2:S'[i]?=some (.ins c fs))(h3:cs.contains c=true)(h4:fs.lookup nm=some d):bp cs nm f ρ S=some (d,S'):=by
 unfold bp;rw[h1];show (match S'[i]? with|some (.ins c fs)=>if cs.contains c then (fs.lookup nm).map λd=>(d,S') else none|_=>none)=_;rw[h2];show (if cs.contains c=true then (fs.lookup nm).map λd=>(d,S') else none)=_;rw[if_pos h3,h4];rfl
theorem yb3(h1:f ρ S=some (.r i,S'))(h2:S'[i]?=some (.ins c fs))(h3:(fs.lookup m).isNone=true)(h4:fa ρ S'=some (es,S''))(h5:ms.lookup c=some F)(h6:F (.r i::es) S''=o):cK m ms f fa ρ S=o:=by
 unfold cK;rw[h1];show (match S'[i]? with|some (.ins c fs)=>if (fs.lookup m).isNone then (fa ρ S').bind λq=>(ms.lookup c).bind λF=>F (.r i::q.1) q.2 else none|_=>none)=_;rw[h2];show (if (fs.lookup m).isNone=true then _ else none)=_;rw[if_pos h3,h4];show ((ms.lookup c).bind _)=_;rw[h5];exact h6
theorem qjt(h:S[j]?=some (.dt ps)):dB (.r j) S=some (j,true,ps):=by
 show (match S[j]? with|some (.dk ps)=>some (j,false,ps)|some (.dt ps)=>some (j,true,ps)|_=>none)=_;rw[h]
theorem ni_dt(h:S[j]?=some (.dt ps))(hk:bE k=true):niB (.d k) (.r j) S=some (.d (.bool (xor true (aK ps k).isSome)),S):=by
 have h1:inG true (.d k) (.r j) S=none:=by
  unfold inG;show (((vw (.r j) S).bind b8).bind _)=_;have:vw (.r j) S=none:=by
   show (match S[j]? with|some (.lst es)=>(datas es).map Φ|some (.frz es)=>(datas es).map Φ|_=>none)=_;rw[h]
  rw[this];rfl
 show ((inG true (.d k) (.r j) S).or (inDG true (.d k) (.r j) S))=_;rw[h1,æ];unfold inDG;rw[qjt h];show (if dC true k=true then _ else none)=_;rw[if_pos (show dC true k=true from hk)]
theorem ykg(h:S[j]?=some (.dt ps))(hk:bE k=true)(hv:aK ps k=some v):á (.r j) (.d k) S=some (v,S):=by
 have h1:ixG (.r j) (.d k) S=none:=by
  unfold bE at hk;split at hk
  ·rfl
  ·cases hk
 have h2:ye1 (.r j) (.d k) S=none:=rfl;show ((ixG (.r j) (.d k) S).or ((ye1 (.r j) (.d k) S).or (ixDG (.r j) (.d k) S)))=_;rw[h1,h2,æ,æ];unfold ixDG;rw[qjt h];show (if dC true k=true then _ else none)=_;rw[if_pos (show dC true k=true from hk),hv];rfl
theorem set_dt(h1:h ρ S=some (v,S'))(h2:f ρ S'=some (.r j,S'))(h3:g ρ S'=some (.d k,S'))(hj:S'[j]?=some (.dt ps))(hk:bE k=true)(hl:ps.length<most):qdq f g h ρ S=some (.nx ρ,S'.set j (.dt (ay ps k v))):=by
 unfold qdq;rw[h1];show ((f ρ S').bind _)=_;rw[h2];show ((g ρ S').bind _)=_;rw[h3];show ((yj0 (.r j) S').bind _)=_;have hr:yj0 (.r j) S'=some (j,.dt ps):=by
  show (S'[j]?).map (λo=>(j,o))=_;rw[hj];rfl
 rw[hr];show (if dC true k=true/\ps.length<most then some (S'.set j (.dt (ay ps k v))) else none).map _=_;rw[if_pos ⟨hk,hl⟩];rfl
theorem qgp(h:bE k=true):ŧ k=true:=by
 unfold bE at h;split at h
 ·rw[Å]at h;exact h.1
 ·cases h
theorem qg7(hk:bE k=true)(hn:aK ps k=none):ay ps k v=ps++[(k,v)]/\aK (ps++[(k,v)]) k=some v:=by
 unfold ay;rw[hn];refine ⟨rfl,?_⟩;unfold aK at hn ⊢;rw[List.find?_append,Option.map_eq_none_iff.mp hn,æ];have:ì k k=true:=(ycm k k (qgp hk) (qgp hk)).mpr rfl;simp[this]
theorem valG_mem(hv:aK ps k=some v):∃e∈ps,ì e.1 k=true/\e.2=v:=by
 obtain ⟨e,h1,h2⟩:=Á.mp hv;exact ⟨e,Ź h1,by have:=find?_some h1;exact this,h2⟩
theorem qcb(h:S[j]?=some o):S.set j o=S:=by
 obtain ⟨hl,e⟩:=É.mp h;rw[<-e];exact List.set_getElem_self hl
end
end Dp
namespace Dp
open PySem L2 PyProof.Rows Mx
theorem qix:∀(es:List DV) (g:DV->Option DV) (P:Nat->OS->Prop) {S:OS},P 0 S->
  (∀x∈es,∀k S,k<es.length->P k S->∃ρ1,fg x ρ S=some ρ1/\∃b S1,ft ρ1 S=some (b,S1)/\((b=false/\g x=none/\P (k+1) S1)\/(b=true/\∃y S2,f ρ1 S1=some (y,S2)/\g x=some y/\P (k+1) S2)))->
  ∃S',bf fg ft f ρ es S=some (es.filterMap g,S')/\P es.length S'
 |[],g,P,S,h0,_=>⟨S,rfl,h0⟩
 |x::es,g,P,S,h0,st=>by
  obtain ⟨ρ1,h1,b,S1,h2,h3⟩:=st x Ì 0 S (Nat.succ_pos _) h0;have st':=λx hx k S (hk:k<es.length)=>st x (Ê _ hx) (k+1) S (Nat.succ_lt_succ hk);rcases h3 with ⟨rfl,h3,h4⟩|⟨rfl,y,S2,h3,h4,h5⟩
  ·obtain ⟨S',g1,g2⟩:=qix es g (λk=>P (k+1)) h4 st';refine ⟨S',?_,g2⟩;unfold bf;rw[h1];simp only[Ē];rw[h2,Ę,h3];exact g1
  ·obtain ⟨S',g1,g2⟩:=qix es g (λk=>P (k+1)) h5 st';refine ⟨S',?_,g2⟩;unfold bf;rw[h1];simp only[Ē];rw[h2,Ę,h4];simp only[if_true,Ē];rw[h3];simp only[Ē];rw[g1];rfl
theorem yka(h:qfq l=true):qa1 [.d (.list l)] S=some (.d (.list (b7 ci (aZ l))),S):=by
 unfold qa1;show ((lsD (.d (.list l)) S).bind _)=_;have:lsD (.d (.list l)) S=some l:=by
  show (some (l.map DV.d)).bind datas=_;exact eF l
 rw[this];show (if qfq l=true then _ else none)=_;rw[if_pos h]
theorem yhx:ax [.d (.list l)] S=some (.d (.tuple l),S):=by
 unfold ax;show ((cA (.d (.list l)) S).bind _)=_;have:cA (.d (.list l)) S=some (false,l):=by
  show ((datas (l.map DV.d)).map λds=>(false,ds))=_;rw[eF];rfl
 rw[this];rfl
theorem ix_own(h:S[i]?=some (.lst es)\/S[i]?=some (.frz es)\/S[i]?=some (.scr es))(he:L2.atI es k=some e):á (.r i) (.d (.int k)) S=some (e,S):=by
 have h1:sq (.r i) S=some (false,es):=by
  show (match S[i]? with|some (.lst es)=>some (false,es)|some (.frz es)=>some (false,es)|some (.scr es)=>some (false,es)|_=>none)=_;rcases h with h|h|h<;>rw[h]
 show ((ixG (.r i) (.d (.int k)) S).or _)=_;unfold ixG;show ((((sq (.r i) S).bind λp=>L2.atI p.2 k).map λe=>(e,S)).or _)=_;rw[h1];show (((L2.atI es k).map λe=>(e,S)).or _)=_;rw[he];rfl
end Dp
namespace Dp
open PySem L2 PyProof.Rows Mx
theorem qfj:∀dd:List Â,bc f (dd.map .d)=some (dd.map .d)
 |[]=>rfl
 |d::dd=>by
  show ((bc f (dd.map .d)).map (DV.d d :: ·))=_;rw[qfj dd];rfl
theorem refs_d:∀dd:List Â,(dd.map DV.d).flatMap cg=[]
 |[]=>rfl
 |d::dd=>by rw[þ,List.flatMap_cons,refs_d dd];rfl
theorem FL_new{n m:Nat}{fs:FS}{dd:List Â}{T T2 S:OS}{k:Nat}(h:Ŧ n m fs (dd.map .d) []=some (.r k,T))(hf:fz (.r k) T=none)(h2:bO (di [] S.length) T=some T2):FL n m fs (dd.map .d) S=some (.r (S.length+k),S++T2):=by
 show eJ (Ŧ n m fs) (dd.map .d) S=_;have hp:eQ (Ŧ n m fs) (dd.map .d) S=none:=by
  unfold eQ;rw[eF];show ((Ŧ n m fs (dd.map .d) []).bind _)=_;rw[h];show ((fz (.r k) T).map _)=_;rw[hf];rfl
 unfold eJ;rw[hp,æ];unfold eI;rw[refs_d];show (if ([]:List Nat).Nodup then (bc (bC []) (dd.map .d)).bind _ else none)=_;rw[if_pos nodup_nil,qfj];show ((Ŧ n m fs (dd.map .d) []).bind _)=_;rw[h];show ((bO (di [] S.length) T).map _)=_;rw[h2];rfl
end Dp
namespace Dp
open PySem L2 PyProof.Rows Mx
section
variable {K:Kc}{base:Heap}{n:Nat}{G:Gb}
theorem EnvG.ups(e:EnvG K base n G):∀j,EnvG K base (n+j) G
 |0=>e
 |j+1=>Has.up (k:=0) (x:="") (ps:=[]) (sp:=λ_ _ _ _=>True) (e.ups j)
theorem qc4{k:Nat}{x:Str}{st:Stmt}{ps:List Str}(F:FnAt K.K K.mg x st ps):Has K.P K.w K.K K.mg base k x ps (bj K λ_ _=>none):=by
 obtain ⟨f,fd,h1,h2,h3⟩:=F;exact ⟨f,fd,h1,h2.kp,h3,λvs H Q E ⟨_,_,_,_,_,_,_,_,h,_⟩=>by (cases h),λA outer s H args us vs Q E _ _ _ _ ⟨_,_,_,_,_,_,_,_,h,_⟩=>by (cases h)⟩
theorem has_rec{x:Str}{st:Stmt}{N ps:List Str}(own:List (Str×Nat)){B:FF->FS}{RF:Nat->FF}(e:EnvG K base n G)(F:FnAt K.K K.mg x st ps)(h:∀F,cDef (G.fn x F) st N ps own=some (B F))(h0:RF 0=λ_ _=>none)(hs:∀j,RF (j+1)=F_ N.length ps.length (B (RF j))) :
  ∀j,Has K.P K.w K.K K.mg base (n+j+1) x ps (bj K (RF j))
 |0=>by rw[h0];exact qc4 F
 |j+1=>by rw[hs];exact yiy own ((e.ups j).fn (has_rec own e F h h0 hs j)) F (h (RF j))
noncomputable def lisB(K:Þ):Bool:=K.all λp=>match p.2.cls with
 |.type "list"=>false
 |_=>true
noncomputable def tupB(K:Þ):Bool:=K.all λp=>match p.2.cls with
 |.type "tuple"=>p.2.dict.isNone
 |_=>true
theorem qib:∀{K:Þ}{p:Addr}{o:Obj},K.lookup p=some o->(p,o)∈K
 |[],p,o,h=>by cases h
 | (q,u)::K,p,o,h=>by
  rw[Ĕ]at h;by_cases e:p=q
  ·subst e;rw[beq_self_eq_true]at h;cases h;exact Ì
  ·rw[beq_false_of_ne e]at h;exact Ê _ (qib h)
theorem tupN_of{K:Þ}(h:tupB K=true):TupN K:=λp o e c=>by
 have:=Û.mp h (p,o) (qib e);simp only[c]at this;exact Option.isNone_iff_eq_none.mp this
theorem lis_no{K:Þ}{H:Hp}{a:Addr}{vs:List V}(h:lisB K=true)(q:SqL K H a vs):Rd H a (.lst vs):=by
 rcases q with q|⟨o,_,_,e,c,_⟩
 ·exact q
 ·have:=Û.mp h (a,o) (qib e);simp only[c]at this;cases this
noncomputable def sp_law(K:Þ):Sp:=λvs H Q _=>∃(a:Addr) (ns:List Int),vs=[.ref a]/\SqL K H a (ns.map V.int)/\ns.length<=63/\∀H',Q (.bl true) H'
noncomputable abbrev cB(ns:List Int):OD:=.scr ((ns.map û).map DV.d)
theorem law_fn{st:Stmt}{f:Addr}{fd:ů}{N:List Str}(own:List (Str×Nat)){fs:FS}(e:EnvG K base n G)(F:Fun K.K "law" "law" st f fd)(h:cDef G st N ["_law_script"] own=some fs)(lk:lisB K.K=true)
  (hl:∀ns:List Int,ns.length<=63->∃S',F_ N.length 1 fs [.r 0] [cB ns]=some (.d (.bool true),S')):FnOk K.P K.w K.K K.mg base CX0 (n+1) f fd ["_law_script"] (sp_law K.K):=by
 have P:∀vs H Q E,bj K (F_ N.length 1 fs) vs H Q E->vs.length=1/\_:=λvs H Q E h=>yb0 (N:=N) (ps:=["_law_script"]) (t:=λD σ H=>∃L ρ x r S',x.H=H/\fs ρ x.S=some (r,S')/\Ok K L x/\Rl K L x σ ρ/\OutK K L x S' D r) (λL ρ σ x r S' D h k rl q=>⟨L,ρ,x,r,S',rfl,h,k,rl,q⟩) (ycl h);refine FnOk.imp (sp:=bj K (F_ N.length 1 fs)) (F.ok (dE h).1 (λvs H Q E h=>(P vs H Q E h).1) λcdv A outer s H vs Q E hr hs=>?_) λvs H Q E hs=>?_
 ·obtain ⟨t,h1,h2⟩:=@qdn K base n G N ["_law_script"] _ st own fs f cdv A outer s H E e hr (dE h).1 (dE h).2;have hs:bj K (Ŧ N.length 1 fs) vs H Q E:=ycl hs;exact ⟨t,h1,(yb0 (ps:=["_law_script"]) h2 hs).2⟩
 ·obtain ⟨a,ns,rfl,hS,hn,q⟩:=hs;obtain ⟨S',hF⟩:=hl ns hn;have r:=lis_no lk hS;have nl:∀b,¬ Wd.Lv ⟨[a],[cB ns],H⟩ b:=λb ⟨i,o,_,g,d⟩=>by
   cases i with
   |zero=>cases g;cases d
   |succ i=>cases g
  have sm:Same H (Wd.hp (λ_=>False) ⟨[a],[cB ns],H⟩):=λb u e=>(qce (λz=>z.elim id (nl b))).trans e;refine ⟨λ_=>False,⟨[a],[cB ns],H⟩,[.r 0],.d (.bool true),S',rfl,⟨rfl,by simp,λ_ _ z=>z,λb z=>?_,λi o b g1 g2=>?_⟩,.cons ⟨a,rfl,rfl⟩ .nil,hF,λv y _ _ _ hv=>by cases hv;exact q _⟩
  ·rcases z with z|z
   ·exact z.elim
   ·cases ê.mp z;rcases r with r|⟨o,r⟩<;>(show H a≠none;rw[r];simp)
  ·cases i with
   |zero=>cases g1;cases g2;exact ⟨_,Rd.same' sm r,qgh (ygj ns)⟩
   |succ i=>cases g1
end
theorem fnAt_mk{K:Þ}{h:Heap}{mg:Str->Option Æ}{x:Str}{st:Stmt}{ps:List Str}{f:Addr}{oc:Æ}{od an:Option Addr}{osl:Array (Option Æ)}{kV doc pm cdv ct:Æ}(X:K.In h)(G:h.Ns ù mg)
  (a:W.nsIn K ù x=some (some (.ref f))) (l:K.lookup f=some ⟨oc,od,.func (W.fnOf x x (dL st) (cR st) (bw st) .none kV doc pm an cdv ct),osl⟩) (c:W.codeIn K cdv x=true) (k:Ξ K (.ref f)=true)
  (hb:∀(kV doc pm:Æ) (an:Option Addr) (cdv ct:Æ) (us:List Æ),us.length=ps.length->bindArgs (W.fnOf x x (dL st) (cR st) (bw st) .none kV doc pm an cdv ct) ⟨us,[]⟩=pure (ps.zip us)):FnAt K mg x st ps:=by
 have F:=qg9 (st:=st) l c k;exact ⟨f,_,W.mg_of X G a,F,F.binds hb⟩
noncomputable def FnP(K:Þ)(x:Str)(st:Stmt):Prop:=∃(f:Addr) (oc:Æ) (od an:Option Addr) (sl:Array (Option Æ)) (kV dc pm cd ct:Æ),W.nsIn K ù x=some (some (.ref f))/\K.lookup f=some ⟨oc,od,.func (W.fnOf x x (dL st) (cR st) (bw st) .none kV dc pm an cd ct),sl⟩/\W.codeIn K cd x=true/\Ξ K (.ref f)=true
theorem FnP.at{K:Þ}{h:Heap}{mg:Str->Option Æ}{x:Str}{st:Stmt}{ps:List Str}(p:FnP K x st)(X:K.In h)(G:h.Ns ù mg)
  (hb:∀(kV doc pm:Æ) (an:Option Addr) (cdv ct:Æ) (us:List Æ),us.length=ps.length->bindArgs (W.fnOf x x (dL st) (cR st) (bw st) .none kV doc pm an cdv ct) ⟨us,[]⟩=pure (ps.zip us)):FnAt K mg x st ps:=by
 obtain ⟨f,oc,od,an,sl,kV,dc,pm,cd,ct,a,l,c,k⟩:=p;exact fnAt_mk X G a l c k hb
end Dp
namespace Dp
open PySem L2 PyProof.Rows Mx
theorem qd7{n:Str}:∀{ns:List Str}{us:List Æ},ns.length=us.length->n∈ns->∃v,(ns.zip us).lookup n=some v
 |[],_,_,h=>nomatch h
 |m::ns,[],h,_=>by cases h
 |m::ns,u::us,h,hn=>by
  rw[Θ,Ĕ];cases e:n == m with
  |true=>exact ⟨u,rfl⟩
  |false=>
   refine qd7 (Nat.succ.inj h) ?_;rcases ñ.mp hn with rfl|h
   ·rw[beq_self_eq_true]at e;cases e
   ·exact h
theorem fm_zip{g:Str->Option Æ}:∀{ns:List Str}{us:List Æ},ns.length=us.length->(∀(i:Nat) n v,ns[i]?=some n->us[i]?=some v->g n=some v)->(ns.filterMap λn=>(g n).map (n,·))=ns.zip us
 |[],[],_,_=>rfl
 |[],_::_,h,_=>by cases h
 |_::_,[],h,_=>by cases h
 |n::ns,u::us,h,k=>by
  rw[Ę,k 0 n u rfl rfl,Θ];show (n,u)::_=_;rw[fm_zip (Nat.succ.inj h) λi m v a b=>k (i+1) m v a b]
theorem zip_at:∀{ns:List Str}{us:List Æ},ns.Nodup->∀(i:Nat) n v,ns[i]?=some n->us[i]?=some v->(ns.zip us).lookup n=some v
 |[],_,_,i,n,v,h,_=>by simp at h
 |_::_,[],_,i,n,v,_,h=>by simp at h
 |m::ns,u::us,nd,i,n,v,h1,h2=>by
  rw[nodup_cons]at nd;rw[Θ,Ĕ];cases i with
  |zero=>cases h1;cases h2;rw[beq_self_eq_true]
  |succ i=>
   have:n∈ns:=ć (i:=i) (by simpa using h1);rw[show (n == m)=false from by
    cases e:n == m with
    |false=>rfl
    |true=>exact absurd (Ď e ▸ this) nd.1]
   exact zip_at nd.2 i n v (by simpa using h1) (by simpa using h2)
noncomputable def yfo(a:Arguments):Bool:=a.posonlyargs.isEmpty&&a.vararg.isNone&&a.kwonlyargs.isEmpty&&a.kwarg.isNone&&decide (a.args.map (·.arg)).Nodup
theorem yd1{x q:Str}{a:Arguments}{b:List Stmt}{sc:Scope}{kV dc pm:Æ}{an:Option Addr}{cd ct:Æ}(h:yfo a=true){us:List Æ}(hl:us.length=(a.args.map (·.arg)).length):bindArgs (W.fnOf x q a b sc .none kV dc pm an cd ct) ⟨us,[]⟩=pure ((a.args.map (·.arg)).zip us):=by
 cases a with|mk po ar va ko kd kw df=>
 unfold yfo at h;simp only[Å,List.isEmpty_iff,Option.isNone_iff_eq_none,decide_eq_true_eq]at h;obtain ⟨⟨⟨⟨rfl,rfl⟩,rfl⟩,rfl⟩,h5⟩:=h;have hl:us.length=(ar.map (·.arg)).length:=hl;have h5:(ar.map (·.arg)).Nodup:=h5;have e1:((ar.map (·.arg)).filter λn=>(((ar.map (·.arg)).zip us).lookup n).isNone)=[]:=by
  rw[List.filter_eq_nil_iff];intro n hn';obtain ⟨v,e⟩:=qd7 hl.symm hn';rw[e];simp
 have e2:=fm_zip hl.symm (zip_at h5);refine Eq.trans (b:=pure ((ar.map (·.arg)).filterMap λn=>(((ar.map (·.arg)).zip us).lookup n).map (n,·))) ?_ (congrArg pure e2);have hd:List.drop ((none.getD (#[]:Array Æ)).toList.length-(ar.map (·.arg)).length) (none.getD (#[]:Array Æ)).toList=[]:=List.drop_nil;refine (if_neg (c:=(decide (us.length>(ar.map (·.arg)).length)&&true)=true) (by rw[hl];simp)).trans ((if_neg ?_).trans ?_)
 ·show ¬ (!(List.filter (λn=>(((ar.map (·.arg)).zip us).lookup n).isNone) (List.take ((ar.map (·.arg)).length-(List.drop ((none.getD (#[]:Array Æ)).toList.length-(ar.map (·.arg)).length) (none.getD (#[]:Array Æ)).toList).length) (ar.map (·.arg)))).isEmpty)=true;rw[hd,length_nil,Nat.sub_zero,List.take_length,e1];simp
 ·simp only[Option.getD_none,List.drop_nil,List.zip_nil_right,forIn_nil,map_nil,Ĺ,List.nil_append];rfl
noncomputable def dps(st:Stmt):List Str:=(dL st).args.map (·.arg)
noncomputable def dN(st:Stmt):List Str:=dps st++(bw st).names.filterMap λy=>if (decide (y.2=.local)||decide (y.2=.cell)) && !(dps st).contains y.1 then some y.1 else none
inductive It where
 |g (x:Str) (i:Nat) (N:List Str) (own:List (Str×Nat)) (l:Bool)
 |m (c x q:Str) (i j:Nat) (N:List Str) (own:List (Str×Nat)) (l:Bool)
noncomputable abbrev It.f(x:Str)(i:Nat):It:=.g x i [] [] false
noncomputable def cOf(G:Gb)(st:Stmt)(N:List Str)(own:List (Str×Nat))(l:Bool):Option FF:=let M:=if N.isEmpty=true then dN st else N
 if yfo (dL st)=true then (cDef G st M (dps st) own).map λfs=>cond l (FL M.length (dps st).length fs) (F_ M.length (dps st).length fs) else none
noncomputable def itG(tp:Nat->Stmt)(G:Gb):It->Option Gb
 |.g x i N own l=>(cOf G (tp i) N own l).map λF=>G.fn x F
 |.m c x _ i j N own l=>(cOf G (qeb (tp i) j) N own l).map λF=>if (x == "__init__")=true then G.cls c F else G.meth x c F
noncomputable def cy(tp:Nat->Stmt):Gb->List It->Option Gb
 |G,[]=>some G
 |G,i::r=>(itG tp G i).bind λG'=>cy tp G' r
noncomputable def ClP(K:Þ)(c:Str)(C:Addr):Prop:=W.nsIn K ù c=some (some (.ref C))/\W.plainGet K C Str.empty=true/\W.hasDictIn K C=true/\W.plainOver K C=true/\ũ K (.ref C) "__setattr__"=some (some (.builtin "object.__setattr__"))
noncomputable def MP(K:Þ)(c x q:Str)(st:Stmt):Prop:=∃(C f:Addr) (oc:Æ) (od an:Option Addr) (sl:Array (Option Æ)) (kV dc pm cd ct:Æ),ClP K c C/\W.makesIn K C=true/\Ξ K (.ref C)=true/\ũ K (.ref C) x=some (some (.ref f))/\
 K.lookup f=some ⟨oc,od,.func (W.fnOf x q (dL st) (cR st) (bw st) .none kV dc pm an cd ct),sl⟩/\W.codeIn K cd q=true/\W.isFn K (.ref f)=true/\Ξ K (.ref f)=true
inductive AllP(K:Þ)(tp:Nat->Stmt):List It->Prop
 |nil:AllP K tp []
 |g {x:Str}{i:Nat}{N:List Str}{own:List (Str×Nat)}{l:Bool}{r:List It}:FnP K x (tp i)->AllP K tp r->AllP K tp (.g x i N own l::r)
 |m {c x q:Str}{i j:Nat}{N:List Str}{own:List (Str×Nat)}{l:Bool}{r:List It}:MP K c x q (qeb (tp i) j)->AllP K tp r->AllP K tp (.m c x q i j N own l::r)
section
variable {K:Kc}{base h:Heap}{n:Nat}{G:Gb}{tp:Nat->Stmt}
theorem ClP.ok{c:Str}{C:Addr}(X:K.K.In h)(N:h.Ns ù K.mg)(p:ClP K.K c C):K.mg c=some (.ref C)/\Cls K.K C:=⟨W.mg_of X N p.1,p.2.1,p.2.2.1,p.2.2.2.1,p.2.2.2.2⟩
theorem fnP_at{x:Str}{st:Stmt}(X:K.K.In h)(N:h.Ns ù K.mg)(p:FnP K.K x st)(hp:yfo (dL st)=true):FnAt K.K K.mg x st (dps st):=
 p.at X N λkV doc pm an cdv ct us hl=>yd1 hp hl
theorem cOf_is{st:Stmt}{N:List Str}{own:List (Str×Nat)}{l:Bool}{F:FF}(h:cOf G st N own l=some F):yfo (dL st)=true/\∃M fs,cDef G st M (dps st) own=some fs/\((l=true/\F=FL M.length (dps st).length fs)\/F=F_ M.length (dps st).length fs):=by
 unfold cOf at h;dsimp only at h;split at h
 ·rename_i z
  obtain ⟨fs,e,rfl⟩:=Á.mp h;refine ⟨z,_,fs,e,?_⟩;cases l with
  |true=>exact .inl ⟨rfl,rfl⟩
  |false=>exact .inr rfl
 ·cases h
theorem it_ok{it:It}{r:List It}{G':Gb}(X:K.K.In h)(N:h.Ns ù K.mg)(e:EnvG K base n G)(p:AllP K.K tp (it::r))(hG:itG tp G it=some G'):EnvG K base (n+2) G'/\AllP K.K tp r:=by
 cases p with
 |g p q=>
  obtain ⟨F,e1,rfl⟩:=Á.mp hG;obtain ⟨hp,M,fs,e2,e3⟩:=cOf_is e1;have at_:=fnP_at X N p hp
  rcases e3 with ⟨_,rfl⟩|rfl
  ·exact ⟨(e.ups 1).fn (has_defL _ (e.ups 1) at_ e2),q⟩
  ·exact ⟨(e.ups 1).fn (yiy _ (e.ups 1) at_ e2),q⟩
 |@m c x _ i j _ _ _ _ p q=>
  obtain ⟨F,e1,rfl⟩:=Á.mp hG;obtain ⟨hp,M,fs,e2,e3⟩:=cOf_is e1;obtain ⟨C,f,oc,od,an,sl,kV,dc,pm,cd,ct,c1,c2,c3,c4,c5,c6,c7,c8⟩:=p;obtain ⟨g1,g2⟩:=c1.ok X N;have at_:Mx.qjr K.K C x _ _ (dps (qeb (tp i) j)):=⟨f,_,⟨c4,c7,c8⟩,qg9 c5 c6 c8,(qg9 c5 c6 c8).binds λkV doc pm an cdv ct us hl=>yd1 hp hl⟩
  refine ⟨?_,q⟩;have H:HasM K.P K.w K.K K.mg base C (n+1) x (dps (qeb (tp i) j)) (bj K F):=by
   rcases e3 with ⟨_,rfl⟩|rfl
   ·exact qil _ e at_ e2
   ·exact hasM_def _ e at_ e2
  split
  ·rename_i z
   cases Ď z;exact (e.ups 1).cls (Ò _) (HasI.of (m:=c) g1 ⟨c2,c4,c7,c3⟩ (λg h=>meth_un c4 h) H)
  ·have e':=e.meth g1 g2 H;exact e'.ups 1
theorem all_ok(X:K.K.In h)(N:h.Ns ù K.mg):∀{its:List It}{n:Nat}{G G':Gb},AllP K.K tp its->EnvG K base n G->cy tp G its=some G'->EnvG K base (n+2*its.length) G'
 |[],_,_,_,_,e,h=>by cases h;exact e
 |it::r,n,G,G',p,e,h=>by
  obtain ⟨G1,e1,h⟩:=bnd h;obtain ⟨e2,q⟩:=it_ok X N e p e1;have:=all_ok X N q e2 h;rw[show n+2*(it::r).length=n+2+2*r.length from by rw[Ė];omega];exact this
theorem getD_of{G:Gb}{its:List It}(h:(cy tp G its).isSome=true):cy tp G its=some ((cy tp G its).getD G):=by
 cases e:cy tp G its with
 |none=>rw[e]at h;cases h
 |some g=>rfl
inductive FVs:List Æ->List Â->Prop
 |nil:FVs [] []
 |cons {u:Æ}{d:Â}{us:List Æ}{ds:List Â}:RelV (eV d) u->flB d=true->FVs us ds->FVs (u::us) (d::ds)
theorem FVs.vals:∀{us:List Æ}{ds:List Â},FVs us ds->Vals (ds.map eV) us/\ds.all flB=true
 |_,_,.nil=>⟨.nil,rfl⟩
 |_,_,.cons a b r=>⟨.cons a r.vals.1,by rw[Ĩ,b,r.vals.2];rfl⟩
noncomputable def TupV(K:Þ)(ds:List Â)(u:Æ):Prop:=∃(a:Addr) (od:Option Addr) (its:Array Æ) (n:Nat) (sl:Array (Option Æ)),u=.ref a/\K.lookup a=some ⟨.type "tuple",od,.seq its n,sl⟩/\its.size<=Õ/\FVs its.toList ds
theorem TupV.sq{F:Þ}{ds:List Â}{u:Æ}(h:TupV F ds u):∃p,u=.ref p/\∀H,SqT F H p (ds.map eV):=by
 obtain ⟨a,od,its,n,sl,rfl,l,z,f⟩:=h;exact ⟨a,rfl,λH=>.inr ⟨_,its,n,l,rfl,rfl,z,f.vals.1⟩⟩
inductive CsP(K:Þ):List (Str×Â)->Prop
 |nil:CsP K []
 |flat {x:Str}{d:Â}{u:Æ}{r:List (Str×Â)}:W.nsIn K ù x=some (some u)->RelV (eV d) u->flB d=true->CsP K r->CsP K ((x,d)::r)
 |tup {x:Str}{ds:List Â}{u:Æ}{r:List (Str×Â)}:W.nsIn K ù x=some (some u)->TupV K ds u->CsP K r->CsP K ((x,.tuple ds)::r)
theorem CsP.ok(X:K.K.In h)(N:h.Ns ù K.mg):∀{l:List (Str×Â)},CsP K.K l->∀x d,l.lookup x=some d->∃v u,K.mg x=some u/\RelV v u/\∀H,Dt K H v d
 |_,.nil,x,d,e=>by cases e
 |_,.flat a b c r,x,d,e=>by
  rcases yar e with ⟨rfl,rfl⟩|e
  ·exact ⟨_,_,W.mg_of X N a,b,λH=>fl_at c⟩
  ·exact r.ok X N x d e
 |_,.tup a b r,x,d,e=>by
  rcases yar e with ⟨rfl,rfl⟩|e
  ·obtain ⟨p,rfl,q⟩:=b.sq;obtain ⟨_,_,_,_,_,_,_,_,f⟩:=b;exact ⟨.ref p,_,W.mg_of X N a,rfl,λH=>.tup (q H) (yjc f.vals.2)⟩
  ·exact r.ok X N x d e
inductive TsP(K:Þ):List (Str×Tab)->Prop
 |nil:TsP K []
 |cons {x:Str}{D:Tab}{a:Addr}{es:Array DictEntry}{ep:Nat}{r:List (Str×Tab)}:W.nsIn K ù x=some (some (.ref a))->(a == Ħ)=false->K.lookup a=some ⟨.type "dict",none,.dict es ep,#[]⟩->KTD.Rows (TupV K) es.toList D->tabB D=true->TsP K r->TsP K ((x,D)::r)
theorem TsP.ok(X:K.K.In h)(N:h.Ns ù K.mg):∀{l:List (Str×Tab)},TsP K.K l->∀x D,l.lookup x=some D->TbOk K x D
 |_,.nil,x,d,e=>by cases e
 |_,.cons a b c f g r,x,d,e=>by
  rcases yar e with ⟨rfl,rfl⟩|e
  ·exact ⟨g,_,W.mg_of X N a,b,_,_,_,c,⟨rfl,rfl,rfl⟩,rfl,f.mono λd v h=>h.sq⟩
  ·exact r.ok X N x d e
inductive FlR(K:Þ)(nm:Str):List Str->Prop
 |nil:FlR K nm []
 |cons {c:Str}{C:Addr}{r:List Str}:ClP K c C->ũ K (.ref C) nm=some none->FlR K nm r->FlR K nm (c::r)
inductive FlP(K:Þ):List (Str×List Str)->Prop
 |nil:FlP K []
 |cons {x:Str}{cs:List Str}{r:List (Str×List Str)}:FlR K x cs->FlP K r->FlP K ((x,cs)::r)
theorem FlR.ok(X:K.K.In h)(N:h.Ns ù K.mg){nm:Str}:∀{l:List Str},FlR K.K nm l->FlOk K l nm
 |_,.nil,c,e=>by cases e
 |_,.cons a b r,c,e=>by
  rcases ñ.mp e with rfl|e
  ·exact ⟨_,(a.ok X N).1,(a.ok X N).2,b⟩
  ·exact r.ok X N c e
theorem FlP.ok(X:K.K.In h)(N:h.Ns ù K.mg):∀{l:List (Str×List Str)},FlP K.K l->∀x cs,l.lookup x=some cs->FlOk K cs x
 |_,.nil,x,d,e=>by cases e
 |_,.cons a r,x,d,e=>by
  rcases yar e with ⟨rfl,rfl⟩|e
  ·exact a.ok X N
  ·exact r.ok X N x d e
theorem hk_no:HkOk λ_ _ _=>none:=λ_ _ _ _ _ _ _ h=>by cases h
theorem env_0{cs:List (Str×Â)}{fl:List (Str×List Str)}{ts:List (Str×Tab)}{hk:Hk}(hh:HkOk hk)(X:K.K.In h)(N:h.Ns ù K.mg)(a:CsP K.K cs)(b:FlP K.K fl)(c:TsP K.K ts)(z:∀x∈blN,W.nsIn K.K ù x=some none)(t:tupB K.K=true):EnvG K base 0 ⟨[],cs,fl,[],[],ts,hk⟩:=
 ⟨λx F e=>(by cases e),a.ok X N,λx hx=>W.mg_none_of X N (z x hx),b.ok X N,λx F e=>(by cases e),λx F e=>(by cases e),c.ok X N,tupN_of t,hh⟩
end
end Dp
namespace Mh
open PySem L2 PyProof.Rows Mx Dp
noncomputable def top(i:Nat):Stmt:=(PySem.Challenge.pw_marchmend_k38_stands_led_on.main.body[i]?).getD (.Pass ⟨0,0,0,0⟩)
noncomputable def yb7:Tab:=[("stuck",[.str "cell",.str "bit"]),("slow",[.str "cell",.str "bit"]),("forgets",[.str "cell",.str "bit"]),("misreads",[.str "cell",.str "bit"]),("turns",[.str "cell",.str "cell",.str "bit"]),("sets",[.str "cell",.str "cell",.str "bit",.str "bit"]),("keeps",[.str "cell",.str "cell",.str "bit",.str "bit"]),("nowhere",[.str "cell",.str "bit"]),("other",[.str "cell",.str "cell"]),("both",[.str "cell",.str "cell",.str "how"])]
noncomputable def qcm:Â:=.tuple [.str "and",.str "or"]
noncomputable def yct:Â:=.int 64
noncomputable def ycv:Â:=.int 3
noncomputable def ych:Â:=.int 3
noncomputable def qj3:Â:=.tuple [.str "stuck",.str "slow",.str "forgets",.str "misreads",.str "turns",.str "sets",.str "keeps",.str "nowhere",.str "other",.str "both"]
noncomputable def g0:Gb:=⟨[],[("JOININGS",qcm),("MOST_CELLS",yct),("MOST_HARMS",ycv),("MOST_UNLIKE",ych),("KINDS",qj3)],[("harms",["Little"]),("span",["Little"]),("found",["Little","Stands"]),("memories",["Stands"])],[],[],[("PARTS",yb7)],λ_ _ _=>none⟩
noncomputable def qhy:FS:=(Ï (Ć (bu (bQ "int" (Ä 0)) (bvF (χ (ò (bQ "bool" (Ä 0))))))) ô)
noncomputable def ydy:FF:=F_ 1 1 qhy
noncomputable def B_is_bit:FS:=(Ï (Ć (bu (č ydy (Ñ (Ä 0) Î)) (ß eO (Ä 0) (ģ (Ñ (cF (.int 0)) (Ñ (cF (.int 1)) Î)))))) ô)
noncomputable def F_is_bit:FF:=F_ 1 1 B_is_bit
noncomputable def yf0:FS:=(Ï (Ć (bu (bQ "str" (Ä 0)) (ß eO (Ä 0) (Ä 1)))) ô)
noncomputable def ydh:FF:=F_ 2 2 yf0
noncomputable def yeq:FS:=(Ï (ņ (Ų (Ä 1)) (Đ 2) ((Ï (Ĥ (ò (ß ż (ß á (Ä 2) (cF (.int 0))) (cF (.str "w")))) ((Ï (Č (ß á (Ä 2) (cF (.int 1))) (Đ 0)) ô)) ô) ô))) (Ï (Ć (Ä 0)) ô))
noncomputable def ya6:FF:=F_ 3 2 yeq
noncomputable def qh9:FS:=(Ï (Ć (bu (č ydy (Ñ (Ä 0) Î)) (bu (ß geB (Ä 0) (cF (.int 0))) (ß ltB (Ä 0) (cF yct))))) ô)
noncomputable def yjt:FF:=F_ 1 1 qh9
noncomputable def qjk:FS:=(Ï (Ĥ (ò (ß ż (Ä 0) (cF (.str "cell")))) ((Ï (Ć (č yjt (Ñ (Ä 1) Î))) ô)) ô) (Ï (Ĥ (ò (ß ż (Ä 0) (cF (.str "bit")))) ((Ï (Ć (č F_is_bit (Ñ (Ä 1) Î))) ô)) ô) (Ï (Ć (č ydh (Ñ (Ä 1) (Ñ (cF qcm) Î)))) ô)))
noncomputable def yi4:FF:=F_ 2 2 qjk
noncomputable def yh0:FS:=(Ï (Ć (bu (bQ "tuple" (Ä 0)) (bu (ß gtB (č az (Ñ (Ä 0) Î)) (cF (.int 0))) (bu (bQ "str" (ß á (Ä 0) (cF (.int 0)))) (inTF yb7 (ß á (Ä 0) (cF (.int 0)))))))) ô)
noncomputable def qhq:FF:=F_ 1 1 yh0
noncomputable def qh4:FS:=(Ï (Ć (Į false [none,none] (cE (Ñ (em yb7 (ß á (Ä 0) (cF (.int 0)))) (Ñ (b5 (Ä 0) (η (cF (.int 1))) cX) Î))) (bN [0,1]) (ò (ß ż (Ä 0) (cF (.str "cell")))) (Ä 1))) ô)
noncomputable def qck:FF:=F_ 1 1 qh4
noncomputable def ygc:FS:=(Ï (Č (em yb7 (ß á (Ä 0) (cF (.int 0)))) (Đ 1)) (Ï (Ć (bu (ß ż (č az (Ñ (Ä 0) Î)) (ß ł (č az (Ñ (Ä 1) Î)) (cF (.int 1)))) (č all1C (Ñ (Į false [none,none] (cE (Ñ (Ä 1) (Ñ (b5 (Ä 0) (η (cF (.int 1))) cX) Î))) (bN [0,1]) υ (č yi4 (Ñ (Ä 0) (Ñ (Ä 1) Î)))) Î)))) ô))
noncomputable def qfy:FF:=F_ 2 1 ygc
noncomputable def yjo:FS:=(Ï (Ĥ (orF (χ (ò (č qhq (Ñ (Ä 0) Î)))) (χ (ò (č qfy (Ñ (Ä 0) Î))))) ((Ï (Ć (cF (.bool false))) ô)) ô) (Ï (Č (č qck (Ñ (Ä 0) Î)) (Đ 1)) (Ï (Ć (ß ż (č qee (Ñ (Ä 1) Î)) (č az (Ñ (Ä 1) Î)))) ô)))
noncomputable def qfg:FF:=F_ 2 1 yjo
noncomputable def ydg:FS:=(Ï (Ĥ (orF (χ (ò (bQ "list" (Ä 0)))) (ò (ß gtB (č az (Ñ (Ä 0) Î)) (cF ycv)))) ((Ï noS ô)) ô) (Ï (Č (a7 Î) (Đ 1)) (Ï (ņ (cZ (Ñ (Ä 0) Î)) (bN [2,3]) ((Ï (Ĥ (χ (ò (č qfg (Ñ (Ä 3) Î)))) ((Ï noS ô)) ô) (Ï (ř (cx (Ä 1) (Ñ (č qck (Ñ (Ä 3) Î)) Î))) (Ï (Ĥ (ò (ß gtB (č qee (Ñ (Ä 1) Î)) (cF ych))) ((Ï noS ô)) ô) ô))))) ô)))
noncomputable def yc6:FF:=F_ 4 1 ydg
noncomputable def yhy:FS:=(Ï (ř (č yc6 (Ñ (Ä 0) Î))) (Ï (Č (a7 Î) (Đ 1)) (Ï (ņ (Ų (Ä 0)) (Đ 2) ((Ï (ř (cx (Ä 1) (Ñ (č qck (Ñ (Ä 2) Î)) Î))) ô))) (Ï (Ć (č qa1 (Ñ (Ä 1) Î))) ô))))
noncomputable def qcl:FF:=F_ 3 1 yhy
noncomputable def qiv:FS:=(Ï (Č (a7 (Ñ (ß á (Ä 0) (cF (.int 0))) Î)) (Đ 2)) (Ï (ņ (cE (Ñ (em yb7 (ß á (Ä 0) (cF (.int 0)))) (Ñ (b5 (Ä 0) (η (cF (.int 1))) cX) Î))) (bN [3,4]) ((Ï (ř (aA (Ä 2) (Ñ (ifF (ò (ß ż (Ä 3) (cF (.str "cell")))) (ß á (Ä 1) (Ä 4)) (Ä 4)) Î))) ô))) (Ï (Ć (č ax (Ñ (Ä 2) Î))) ô)))
noncomputable def yju:FF:=F_ 5 2 qiv
noncomputable def B_placed:FS:=(Ï (Č (fF (Ñ (č qcl (Ñ (Ä 0) Î)) (Ñ (Ä 1) Î))) (Đ 2)) (Ï (Ć (Į false [none,some 2] (Ų (Ä 0)) (Đ 0) υ (č yju (Ñ (Ä 0) (Ñ (Ä 1) Î))))) ô))
noncomputable def F_placed:FF:=F_ 3 2 B_placed
noncomputable def B_little:FS:=(Ï (Ć (č F_placed (Ñ (Ä 0) (Ñ (lrF (Ñ (č az (Ñ (č qcl (Ñ (Ä 0) Î)) Î)) Î)) Î)))) ô)
noncomputable def F_little:FF:=F_ 1 1 B_little
noncomputable def yel:FS:=(Ï (Ĥ (ò (ß ż (Ä 0) (cF (.str "cell")))) ((Ï (Ć (Ä 1)) ô)) ô) (Ï (Ć (ifF (ò (ß ż (Ä 0) (cF (.str "bit")))) (ģ (Ñ (cF (.int 0)) (Ñ (cF (.int 1)) Î))) (cF qcm))) ô))
noncomputable def qel:FF:=F_ 2 2 yel
noncomputable def qhk:FS:=(Ï (Č (a7 (Ñ (ģ (Ñ (Ä 0) Î)) Î)) (Đ 2)) (Ï (ņ (Ų (em yb7 (Ä 0))) (Đ 3) ((Ï (Č (a7 Î) (Đ 4)) (Ï (ņ (Ų (Ä 2)) (Đ 5) ((Ï (ř (cx (Ä 4) (Ñ (Į false [none,some 5] (Ų (č qel (Ñ (Ä 3) (Ñ (Ä 1) Î)))) (Đ 0) υ (ß ł (Ä 1) (ģ (Ñ (Ä 0) Î)))) Î))) ô))) (Ï (Č (Ä 4) (Đ 2)) ô))))) (Ï (Ć (č yhu (Ñ (Į false [none] (Ų (Ä 2)) (Đ 0) (ò (č qfg (Ñ (Ä 0) Î))) (Ä 0)) Î))) ô)))
noncomputable def yhi:FF:=F_ 6 2 qhk
noncomputable def qc2:FS:=(Ï (Ć (ß ż (cntF yb7 (Ä 0) (cF (.str "cell"))) (cF (.int 1)))) ô)
noncomputable def ycy:FF:=F_ 1 1 qc2
noncomputable def yfu:FS:=(Ï (ņ (Ų (Ä 0)) (Đ 2) ((Ï (Ĥ (ψ (ò (ß ż (ß á (Ä 2) (cF (.int 0))) (cF (.str "stuck")))) (ò (ß ż (ß á (Ä 2) (cF (.int 1))) (Ä 1)))) ((Ï (Ć (ß á (Ä 2) (cF (.int 2)))) ô)) ô) ô))) (Ï (Ć (cF .none)) ô))
noncomputable def ydf:FF:=F_ 3 2 yfu
noncomputable def B_put:FS:=(Ï (Ĥ (ò (isNF false (č ydf (Ñ (Ä 0) (Ñ (Ä 2) Î))))) ((Ï (qdq (Ä 1) (Ä 2) (Ä 3)) ô)) ô) ô)
noncomputable def F_put:FF:=F_ 4 4 B_put
noncomputable def B_settle:FS:=(Ï (ņ (bz (Ñ (č az (Ñ (Ä 1) Î)) Î)) (Đ 2) ((Ï (Č (č ydf (Ñ (Ä 0) (Ñ (Ä 2) Î))) (Đ 3)) (Ï (Ĥ (ò (isNF true (Ä 3))) ((Ï (qdq (Ä 1) (Ä 2) (Ä 3)) ô)) ô) ô)))) (Ï (ņ (Ų (Ä 0)) (Đ 4) ((Ï (Ĥ (ψ (ò (ß ż (ß á (Ä 4) (cF (.int 0))) (cF (.str "keeps")))) (ò (ß ż (ß á (Ä 1) (ß á (Ä 4) (cF (.int 1)))) (ß á (Ä 4) (cF (.int 3)))))) ((Ï (ř (č F_put (Ñ (Ä 0) (Ñ (Ä 1) (Ñ (ß á (Ä 4) (cF (.int 2))) (Ñ (ß á (Ä 4) (cF (.int 4))) Î)))))) ô)) ô) ô))) ô))
noncomputable def F_settle:FF:=F_ 5 2 B_settle
noncomputable def qcs:FS:=(Ï (ņ (Ų (Ä 0)) (Đ 2) ((Ï (Ĥ (ψ (ò (ß eO (ß á (Ä 2) (cF (.int 0))) (ģ (Ñ (cF (.str "nowhere")) (Ñ (cF (.str "other")) (Ñ (cF (.str "both")) Î)))))) (ò (ß ż (ß á (Ä 2) (cF (.int 1))) (Ä 1)))) ((Ï (Ć (Ä 2)) ô)) ô) ô))) (Ï (Ć (cF .none)) ô))
noncomputable def qbg:FF:=F_ 3 2 qcs
noncomputable def yda:FS:=(Ï (Ĥ (ò (isNF false (Ä 0))) ((Ï (Ć (ĵ (Ñ (Ä 1) Î))) ô)) ô) (Ï (Ĥ (ò (ß ż (ß á (Ä 0) (cF (.int 0))) (cF (.str "nowhere")))) ((Ï (Ć (ĵ Î)) ô)) ô) (Ï (Ĥ (ò (ß ż (ß á (Ä 0) (cF (.int 0))) (cF (.str "other")))) ((Ï (Ć (ĵ (Ñ (ß á (Ä 0) (cF (.int 2))) Î))) ô)) ô) (Ï (Ć (ĵ (Ñ (Ä 1) (Ñ (ß á (Ä 0) (cF (.int 2))) Î)))) ô))))
noncomputable def qbr:FF:=F_ 2 2 yda
noncomputable def ygd:FS:=(Ï (Č (ß á (Ä 1) (Ä 2)) (Đ 3)) (Ï (ņ (Ų (Ä 0)) (Đ 4) ((Ï (Ĥ (ψ (ò (ß eO (ß á (Ä 4) (cF (.int 0))) (ģ (Ñ (cF (.str "forgets")) (Ñ (cF (.str "misreads")) Î))))) (ψ (ò (ß ż (ß á (Ä 4) (cF (.int 1))) (Ä 2))) (ò (ß ż (ß á (Ä 4) (cF (.int 2))) (Ä 3))))) ((Ï (ř (č F_put (Ñ (Ä 0) (Ñ (Ä 1) (Ñ (Ä 2) (Ñ (ß cV (cF (.int 1)) (Ä 3)) Î)))))) (Ï (Ć (ifF (ò (ß ż (ß á (Ä 4) (cF (.int 0))) (cF (.str "forgets")))) (Ä 3) (ß á (Ä 1) (Ä 2)))) ô))) ô) ô))) (Ï (Ć (Ä 3)) ô)))
noncomputable def yf8:FF:=F_ 5 3 ygd
noncomputable def yib:FS:=(Ï (Č (č qbg (Ñ (Ä 0) (Ñ (Ä 2) Î))) (Đ 3)) (Ï (Č (a7 Î) (Đ 4)) (Ï (ņ (Ų (č qbr (Ñ (Ä 3) (Ñ (Ä 2) Î)))) (Đ 5) ((Ï (ř (aA (Ä 4) (Ñ (č yf8 (Ñ (Ä 0) (Ñ (Ä 1) (Ñ (Ä 5) Î)))) Î))) ô))) (Ï (Ĥ (ò (ß ż (č az (Ñ (Ä 4) Î)) (cF (.int 0)))) ((Ï (Ć (ß á (Ä 3) (cF (.int 2)))) ô)) ô) (Ï (Ĥ (ò (ß ż (č az (Ñ (Ä 4) Î)) (cF (.int 1)))) ((Ï (Ć (ß á (Ä 4) (cF (.int 0)))) ô)) ô) (Ï (Ć (ifF (ò (ß ż (ß á (Ä 3) (cF (.int 3))) (cF (.str "and")))) (č minC (Ñ (Ä 4) Î)) (č maxC (Ñ (Ä 4) Î)))) ô))))))
noncomputable def qkf:FF:=F_ 6 3 yib
noncomputable def yja:FS:=(Ï (Ć (bu (ß d7 (ß á (Ä 1) (Ä 2)) (Ä 3)) (ß eO (ģ (Ñ (cF (.str "slow")) (Ñ (Ä 2) (Ñ (Ä 3) Î)))) (Ä 0)))) ô)
noncomputable def qkg:FF:=F_ 4 4 yja
noncomputable def qh5:FS:=(Ï (ņ (Ų (Ä 0)) (Đ 4) ((Ï (Ĥ (ψ (ò (ß ż (ß á (Ä 4) (cF (.int 0))) (cF (.str "keeps")))) (ψ (ò (ß ż (ß á (Ä 4) (cF (.int 2))) (Ä 2))) (ò (ß ż (ß á (Ä 1) (ß á (Ä 4) (cF (.int 1)))) (ß á (Ä 4) (cF (.int 3))))))) ((Ï (Ć (ß á (Ä 4) (cF (.int 4)))) ô)) ô) ô))) (Ï (Ć (Ä 3)) ô))
noncomputable def qhi:FF:=F_ 5 4 qh5
noncomputable def qc8:FS:=(Ï (ņ (Ų (Ä 0)) (Đ 3) ((Ï (Ĥ (ψ (ò (ß eO (ß á (Ä 3) (cF (.int 0))) (ģ (Ñ (cF (.str "turns")) (Ñ (cF (.str "sets")) (Ñ (cF (.str "keeps")) Î)))))) (ψ (ò (ß ż (ß á (Ä 3) (cF (.int 1))) (Ä 2))) (ò (ß ż (ß á (Ä 3) (cF (.int 3))) (ß á (Ä 1) (Ä 2)))))) ((Ï (ř (č F_put (Ñ (Ä 0) (Ñ (Ä 1) (Ñ (ß á (Ä 3) (cF (.int 2))) (Ñ (ifF (ò (ß ż (ß á (Ä 3) (cF (.int 0))) (cF (.str "turns")))) (ß cV (cF (.int 1)) (ß á (Ä 1) (ß á (Ä 3) (cF (.int 2))))) (ß á (Ä 3) (cF (.int 4)))) Î)))))) ô)) ô) ô))) ô)
noncomputable def qc9:FF:=F_ 4 3 qc8
noncomputable def ye6:FS:=(Ï (Ĥ (ò (č qkg (Ñ (Ä 0) (Ñ (Ä 1) (Ñ (Ä 2) (Ñ (Ä 3) Î)))))) ((Ï (Ć (cF .none)) ô)) ô) (Ï (Č (ß á (Ä 1) (Ä 2)) (Đ 4)) (Ï (ř (č F_put (Ñ (Ä 0) (Ñ (Ä 1) (Ñ (Ä 2) (Ñ (č qhi (Ñ (Ä 0) (Ñ (Ä 1) (Ñ (Ä 2) (Ñ (Ä 3) Î))))) Î)))))) (Ï (Ĥ (ò (ß d7 (ß á (Ä 1) (Ä 2)) (Ä 4))) ((Ï (ř (č qc9 (Ñ (Ä 0) (Ñ (Ä 1) (Ñ (Ä 2) Î))))) ô)) ô) ô))))
noncomputable def qe7:FF:=F_ 5 4 ye6
noncomputable def qhw:FS:=(Ï (ņ (Ų (č qbr (Ñ (č qbg (Ñ (Ä 0) (Ñ (Ä 2) Î))) (Ñ (Ä 2) Î)))) (Đ 4) ((Ï (ř (č qe7 (Ñ (Ä 0) (Ñ (Ä 1) (Ñ (Ä 4) (Ñ (Ä 3) Î)))))) ô))) ô)
noncomputable def qhs:FF:=F_ 5 4 qhw
noncomputable def B_deeds:FS:=(Ï (Č (a7 Î) (Đ 3)) (Ï (ņ (bz (Ñ (Ä 2) Î)) (Đ 4) ((Ï (Č (ifF (ò (ß ż (Ä 0) (cF (.str "up")))) (Ä 4) (ß cV (ß cV (Ä 2) (cF (.int 1))) (Ä 4))) (Đ 5)) (Ï (ņ (cZ (Ñ (Ä 1) Î)) (bN [6,7]) ((Ï (ř (aA (Ä 3) (Ñ (ģ (Ñ (Ä 5) (Ñ (Ä 6) (Ñ (Ä 7) Î)))) Î))) ô))) ô)))) (Ï (Ć (Ä 3)) ô)))
noncomputable def F_deeds:FF:=F_ 8 3 B_deeds
noncomputable def ygi:FS:=(Ï (Ć (Į false [none,none,none] (Ų (č F_deeds (Ñ (Ä 0) (Ñ (Ä 1) (Ñ (Ä 2) Î))))) (bN [0,1,2]) υ (ģ (Ñ (Ä 0) (Ñ (Ä 2) Î))))) ô)
noncomputable def qb7:FF:=F_ 3 3 ygi
noncomputable def qdt:FS:=(Ï (Č (a7 (Ñ (ģ Î) Î)) (Đ 1)) (Ï (ņ (bz (Ñ (Ä 0) Î)) (Đ 2) ((Ï (Č (ß ł (Į false [none] (Ų (Ä 1)) (Đ 0) υ (ß ł (ģ (Ñ (cF (.int 0)) Î)) (Ä 0))) (Į false [none] (Ų (Ä 1)) (Đ 0) υ (ß ł (ģ (Ñ (cF (.int 1)) Î)) (Ä 0)))) (Đ 1)) ô))) (Ï (Ć (Ä 1)) ô)))
noncomputable def qdr:FF:=F_ 3 1 qdt
noncomputable def yjy:FS:=(Ï (Č (č lstOC (Ñ (Ä 1) Î)) (Đ 4)) (Ï (Ĥ (ò (ß ż (ß á (Ä 3) (cF (.int 0))) (cF (.str "w")))) ((Ï (ř (č qhs (Ñ (Ä 0) (Ñ (Ä 4) (Ñ (Ä 2) (Ñ (ß á (Ä 3) (cF (.int 1))) Î)))))) ô)) ((Ï (Ĥ (ò (ß d7 (č qkf (Ñ (Ä 0) (Ñ (Ä 4) (Ñ (Ä 2) Î)))) (ß á (Ä 3) (cF (.int 1))))) ((Ï (Ć (cF .none)) ô)) ô) ô))) (Ï (Ć (č ax (Ñ (Ä 4) Î))) ô)))
noncomputable def ycf:FF:=F_ 5 4 yjy
noncomputable def yew:FS:=(Ï (fu ["Little"] "harms" (Ä 0) (č bX (Ñ (Ä 1) Î))) (Ï (fu ["Little"] "span" (Ä 0) (Ä 2)) (Ï (fu ["Little","Stands"] "found" (Ä 0) (de true)) ô)))
noncomputable def yey:FF:=F_ 3 3 yew
noncomputable def qcz:FS:=(Ï (Č (č lstOC (Ñ (Ä 1) Î)) (Đ 2)) (Ï (ř (č F_settle (Ñ (bp ["Little"] "harms" (Ä 0)) (Ñ (Ä 2) Î)))) (Ï (Ć (č ax (Ñ (Ä 2) Î))) ô)))
noncomputable def qc0:FF:=F_ 3 2 qcz
noncomputable def yai:FS:=(Ï (Č (de true) (Đ 1)) (Ï (ņ (Ų (č qdr (Ñ (bp ["Little"] "span" (Ä 0)) Î))) (Đ 2) ((Ï (Č (cK "made_of" [("Little",qc0)] (Ä 0) (Ñ (Ä 2) Î)) (Đ 3)) (Ï (Ĥ (orF (ò (ß niB (Ä 3) (Ä 1))) (ò (ß ż (Ä 3) (Ä 2)))) ((Ï (qdq (Ä 1) (Ä 3) (Ä 2)) ô)) ô) ô)))) (Ï (Ć (Ä 1)) ô)))
noncomputable def qbb:FF:=FL 4 1 yai
noncomputable def yed:FS:=(Ï (Č (ģ (Ñ (Ä 1) (Ñ (Ä 2) (Ñ (Ä 3) Î)))) (Đ 4)) (Ï (Ĥ (ò (ß niB (Ä 4) (bp ["Little","Stands"] "found" (Ä 0)))) ((Ï (qdq (bp ["Little","Stands"] "found" (Ä 0)) (Ä 4) (č ycf (Ñ (bp ["Little"] "harms" (Ä 0)) (Ñ (Ä 1) (Ñ (Ä 2) (Ñ (Ä 3) Î)))))) ô)) ô) (Ï (Ć (ß á (bp ["Little","Stands"] "found" (Ä 0)) (Ä 4))) ô)))
noncomputable def qa6:FF:=F_ 5 4 yed
noncomputable def ybt:FS:=(Ï (ņ (Ų (Ä 2)) (bN [3,4]) ((Ï (Č (cK "done" [("Little",qa6)] (Ä 0) (Ñ (Ä 1) (Ñ (Ä 3) (Ñ (Ä 4) Î)))) (Đ 1)) (Ï (Ĥ (ò (isNF false (Ä 1))) ((Ï (Ć (cF .none)) ô)) ô) ô)))) (Ï (Ć (Ä 1)) ô))
noncomputable def ya1:FF:=F_ 5 3 ybt
noncomputable def ycg:FS:=(Ï (Ć (cK "gone_through" [("Little",ya1)] (Ä 0) (Ñ (Ä 1) (Ñ (č qb7 (Ñ (Ä 2) (Ñ (Ä 3) (Ñ (bp ["Little"] "span" (Ä 0)) Î)))) Î)))) ô)
noncomputable def qaw:FF:=F_ 4 4 ycg
noncomputable def qbq:FS:=(Ï (Ć (yf3 "Little" yey (Ñ (č F_little (Ñ (Ä 0) Î)) (Ñ (č az (Ñ (č qcl (Ñ (Ä 0) Î)) Î)) Î)))) ô)
noncomputable def yag:FF:=FL 1 1 qbq
noncomputable def qdu:FS:=(Ï (Ĥ (χ (ò (č ydh (Ñ (Ä 0) (Ñ (cF qj3) Î))))) ((Ï noS ô)) ô) ô)
noncomputable def yds:FF:=F_ 1 1 qdu
noncomputable def qh7:FS:=(Ï (ř (č yds (Ñ (Ä 0) Î))) (Ï (Ć (č yhi (Ñ (Ä 0) (Ñ (ifF (ò (č ycy (Ñ (Ä 0) Î))) (ĵ (Ñ (cF (.int 0)) Î)) (ĵ (Ñ (cF (.int 0)) (Ñ (cF (.int 1)) Î)))) Î)))) ô))
noncomputable def qbh:FF:=F_ 1 1 qh7
noncomputable def qay:FS:=(Ï (Č (a7 Î) (Đ 1)) (Ï (ņ (Ų (Ä 0)) (Đ 2) ((Ï (ř (cx (Ä 1) (Ñ (Į false [none] (Ų (č qbh (Ñ (Ä 2) Î))) (Đ 0) υ (č yag (Ñ (ĵ (Ñ (Ä 0) Î)) Î))) Î))) ô))) (Ï (Ć (Ä 1)) ô)))
noncomputable def ybl:FF:=F_ 3 1 qay
noncomputable def yeu:FS:=(Ï (fu ["Stands"] "memories" (Ä 0) (č ybl (Ñ (Ä 1) Î))) (Ï (fu ["Little","Stands"] "found" (Ä 0) (de true)) ô))
noncomputable def yak:FF:=F_ 2 2 yeu
noncomputable def qdv:FS:=(Ï (Ć (ģ (Ñ (cF .none) (Ñ (č ax (Ñ (Į false [none] (Ų (bp ["Stands"] "memories" (Ä 0))) (Đ 0) υ (č ax (Ñ (č yhu (Ñ (cK "firsts" [("Little",qbb)] (Ä 0) Î) Î)) Î))) Î)) Î)))) ô)
noncomputable def qb0:FF:=F_ 1 1 qdv
noncomputable def yby:FS:=(Ï (Č (Į false [none,some 0,some 1,some 3] (Ų (Ä 2)) (Đ 0) υ (cK "gone_over" [("Little",qaw)] (ß á (bp ["Stands"] "memories" (Ä 1)) (Ä 2)) (Ñ (Ä 0) (Ñ (ß á (Ä 3) (cF (.int 0))) (Ñ (ß á (Ä 3) (cF (.int 1))) Î))))) (Đ 4)) (Ï (Ć (č ax (Ñ (č qa1 (Ñ (Į false [none] (Ų (Ä 4)) (Đ 0) (ò (isNF true (Ä 0))) (Ä 0)) Î)) Î))) ô))
noncomputable def qar:FF:=F_ 5 4 yby
noncomputable def qdf:FS:=(Ï (Č (eu (bp ["Little","Stands"] "found" (Ä 0)) (ģ (Ñ (ß á (Ä 2) (cF (.int 0))) (Ñ (č ax (Ñ (ß á (Ä 2) (cF (.int 1))) Î)) Î))) (de true)) (Đ 3)) (Ï (Č (a7 Î) (Đ 4)) (Ï (ņ (enu1F (Ñ (ß á (Ä 1) (cF (.int 1))) Î)) (Đ 5) ((Ï (Ĥ (ò (ß niB (Ä 5) (Ä 3))) ((Ï (qdq (Ä 3) (Ä 5) (cK "list_behind" [("Stands",qar)] (Ä 0) (Ñ (ß á (Ä 5) (cF (.int 0))) (Ñ (ß á (Ä 5) (cF (.int 1))) (Ñ (Ä 2) Î))))) ô)) ô) (Ï (ř (aA (Ä 4) (Ñ (ß á (Ä 3) (Ä 5)) Î))) ô)))) (Ï (Ć (ģ (Ñ (č ya6 (Ñ (ß á (Ä 1) (cF (.int 0))) (Ñ (ß á (Ä 2) (cF (.int 1))) Î))) (Ñ (č ax (Ñ (Ä 4) Î)) Î)))) ô))))
noncomputable def ybp:FF:=F_ 6 3 qdf
noncomputable def yec:FS:=(Ï (Ć (cK "first" [("Stands",qb0)] (yf3 "Stands" yak (Ñ (Ä 0) Î)) Î)) ô)
noncomputable def ya5:FF:=F_ 1 1 yec
noncomputable def B_led_to:FS:=(Ï (Ć (cK "behind" [("Stands",ybp)] (yf3 "Stands" yak (Ñ (Ä 0) Î)) (Ñ (Ä 1) (Ñ (Ä 2) Î)))) ô)
noncomputable def ybv:FF:=F_ 3 3 B_led_to
noncomputable def qfi:FS:=(Ï (Č (č absC (Ñ (Ä 0) Î)) (Đ 3)) (Ï (Č (ß geB (Ä 3) (ß fv (cF (.int 10)) (cF (.int 18)))) (Đ 4)) (Ï (Č (ß ł (ß ap (Ä 3) (cF (.int 2147483647))) (ß bo (cF (.int 7919)) (Ä 1))) (Đ 5)) (Ï (Č (a7 Î) (Đ 6)) (Ï (ņ (cZ (Ñ (Ä 2) Î)) (bN [7,8]) ((Ï (Ĥ (ψ (ò (Ä 4)) (ò (ß gtB (Ä 3) (cF (.int 0))))) ((Ï (ř (aA (Ä 6) (Ñ (ß ap (Ä 3) (Ä 8)) Î))) (Ï (Č (ß cN (Ä 3) (Ä 8)) (Đ 3)) ô))) ((Ï (Č (ß ap (ß fv (ß ł (Ä 5) (ß bo (cF (.int 104729)) (ß ł (Ä 7) (cF (.int 1))))) (cF (.int 2))) (cF (.int 2147483587))) (Đ 5)) (Ï (ř (aA (Ä 6) (Ñ (ß ap (ß cN (Ä 5) (cF (.int 16))) (Ä 8)) Î))) ô)))) ô))) (Ï (Ć (Ä 6)) ô))))))
noncomputable def ycx:FF:=F_ 9 3 qfi
noncomputable def qj9:FS:=(Ï (Ĥ (ò (ß d7 (Į false [none,some 2] (Ų (Ä 0)) (Đ 0) (ò (ß ż (b5 (Ä 0) cX (η (cF (.int 2)))) (ģ (Ñ (cF (.str "stuck")) (Ñ (Ä 1) Î))))) (Ä 0)) (ĵ Î))) ((Ï (Ć (Ä 1)) ô)) ô) (Ï (Ć (ß ł (ß ł (b5 (Ä 1) cX (η (Ä 2))) (ģ (Ñ (Ä 3) Î))) (b5 (Ä 1) (η (ß ł (Ä 2) (cF (.int 1)))) cX))) ô))
noncomputable def yci:FF:=F_ 4 4 qj9
noncomputable def ygf:FS:=(Ï (Ĥ (ψ (ò (ß d7 (ß á (Ä 1) (Ä 2)) (Ä 3))) (ò (ß eO (ģ (Ñ (cF (.str "slow")) (Ñ (Ä 2) (Ñ (Ä 3) Î)))) (Ä 0)))) ((Ï (Ć (Ä 1)) ô)) ô) (Ï (Č (Į false [none,some 1,some 2] (Ų (Ä 0)) (Đ 0) (ψ (ò (ß ż (ß á (Ä 0) (cF (.int 0))) (cF (.str "keeps")))) (ò (ß ż (ß ł (b5 (Ä 0) (η (cF (.int 2))) (η (cF (.int 3)))) (ģ (Ñ (ß á (Ä 1) (ß á (Ä 0) (cF (.int 1)))) Î))) (ģ (Ñ (Ä 2) (Ñ (ß á (Ä 0) (cF (.int 3))) Î)))))) (ß á (Ä 0) (cF (.int 4)))) (Đ 4)) (Ï (Č (č yci (Ñ (Ä 0) (Ñ (Ä 1) (Ñ (Ä 2) (Ñ (ß á (ß ł (Ä 4) (ĵ (Ñ (Ä 3) Î))) (cF (.int 0))) Î))))) (Đ 5)) (Ï (Ĥ (ò (ß ż (Ä 5) (Ä 1))) ((Ï (Ć (Ä 1)) ô)) ô) (Ï (ņ (Ų (Ä 0)) (Đ 6) ((Ï (Ĥ (ψ (ò (ß eO (ß á (Ä 6) (cF (.int 0))) (ģ (Ñ (cF (.str "turns")) (Ñ (cF (.str "sets")) (Ñ (cF (.str "keeps")) Î)))))) (ψ (ò (ß ż (ß á (Ä 6) (cF (.int 1))) (Ä 2))) (ò (ß ż (ß á (Ä 6) (cF (.int 3))) (ß á (Ä 5) (Ä 2)))))) ((Ï (Č (č yci (Ñ (Ä 0) (Ñ (Ä 5) (Ñ (ß á (Ä 6) (cF (.int 2))) (Ñ (ß á (ß ł (b5 (Ä 6) (η (cF (.int 4))) cX) (ģ (Ñ (ß cV (cF (.int 1)) (ß á (Ä 5) (ß á (Ä 6) (cF (.int 2))))) Î))) (cF (.int 0))) Î))))) (Đ 5)) ô)) ô) ô))) (Ï (Ć (Ä 5)) ô))))))
noncomputable def qge:FF:=F_ 7 4 ygf
noncomputable def qhn:FS:=(Ï (ņ (Ų (Ä 0)) (Đ 3) ((Ï (Ĥ (ψ (ò (ß eO (ß á (Ä 3) (cF (.int 0))) (ģ (Ñ (cF (.str "forgets")) (Ñ (cF (.str "misreads")) Î))))) (ò (ß ż (b5 (Ä 3) (η (cF (.int 1))) cX) (ģ (Ñ (Ä 2) (Ñ (ß á (Ä 1) (Ä 2)) Î)))))) ((Ï (Č (č yci (Ñ (Ä 0) (Ñ (Ä 1) (Ñ (Ä 2) (Ñ (ß cV (cF (.int 1)) (ß á (Ä 1) (Ä 2))) Î))))) (Đ 4)) (Ï (Ć (ģ (Ñ (Ä 4) (Ñ (ß á (ĵ (Ñ (ß á (Ä 1) (Ä 2)) (Ñ (ß á (Ä 4) (Ä 2)) Î))) (č intC (Ñ (ß ż (ß á (Ä 3) (cF (.int 0))) (cF (.str "misreads"))) Î))) Î)))) ô))) ô) ô))) (Ï (Ć (ģ (Ñ (Ä 1) (Ñ (ß á (Ä 1) (Ä 2)) Î)))) ô))
noncomputable def qh1:FF:=F_ 5 3 qhn
noncomputable def qhx:FS:=(Ï (Č (b5 (Į false [none,some 2] (Ų (Ä 0)) (Đ 0) (ψ (ò (ß eO (ß á (Ä 0) (cF (.int 0))) (ģ (Ñ (cF (.str "nowhere")) (Ñ (cF (.str "other")) (Ñ (cF (.str "both")) Î)))))) (ò (ß ż (ß á (Ä 0) (cF (.int 1))) (Ä 1)))) (Ä 0)) cX (η (cF (.int 1)))) (Đ 4)) (Ï (Č (ĵ (Ñ (Ä 2) Î)) (Đ 5)) (Ï (ņ (Ų (Ä 4)) (Đ 6) ((Ï (Č (ß á (dicF (yei (cF (.str "nowhere")) (ĵ Î) (yei (cF (.str "other")) (ĵ (Ñ (ß á (Ä 6) (cF (.int 2))) Î)) (yei (cF (.str "both")) (ĵ (Ñ (Ä 2) (Ñ (ß á (Ä 6) (cF (.int 2))) Î))) nilP)))) (ß á (Ä 6) (cF (.int 0)))) (Đ 5)) ô))) (Ï (Č (a7 Î) (Đ 7)) (Ï (ņ (Ų (Ä 5)) (Đ 8) ((Ï (Ĥ (ò (ß ż (ß á (Ä 3) (cF (.int 0))) (cF (.str "w")))) ((Ï (Č (č qge (Ñ (Ä 0) (Ñ (Ä 1) (Ñ (Ä 8) (Ñ (ß á (Ä 3) (cF (.int 1))) Î))))) (Đ 1)) ô)) ((Ï (Č (č qh1 (Ñ (Ä 0) (Ñ (Ä 1) (Ñ (Ä 8) Î)))) (bN [1,9])) (Ï (ř (aA (Ä 7) (Ñ (Ä 9) Î))) ô)))) ô))) (Ï (Ĥ (ò (ß ż (ß á (Ä 3) (cF (.int 0))) (cF (.str "w")))) ((Ï (Ć (ģ (Ñ (Ä 1) (Ñ (cF .none) Î)))) ô)) ô) (Ï (Ĥ (ò (ß ż (Ä 5) (ĵ Î))) ((Ï (Ć (ģ (Ñ (Ä 1) (Ñ (ß á (ß á (Ä 4) (cF (.int 0))) (cF (.int 2))) Î)))) ô)) ô) (Ï (Ĥ (ψ (ò (ß ż (č az (Ñ (Ä 7) Î)) (cF (.int 2)))) (ò (ß ż (ß á (ß á (Ä 4) (cF (.int 0))) (cF (.int 3))) (cF (.str "or"))))) ((Ï (Ć (ģ (Ñ (Ä 1) (Ñ (č maxC (Ñ (Ä 7) Î)) Î)))) ô)) ô) (Ï (Ć (ģ (Ñ (Ä 1) (Ñ (č minC (Ñ (Ä 7) Î)) Î)))) ô)))))))))
noncomputable def qbv:FF:=F_ 10 4 qhx
noncomputable def qf5:FS:=(Ï (Č (ģ Î) (Đ 2)) (Ï (ņ (bz (Ñ (č az (Ñ (Ä 1) Î)) Î)) (Đ 3) ((Ï (Č (ß ł (Ä 2) (č ax (Ñ (b5 (ß ł (Į false [none,some 3] (Ų (Ä 0)) (Đ 0) (ò (ß ż (b5 (Ä 0) cX (η (cF (.int 2)))) (ģ (Ñ (cF (.str "stuck")) (Ñ (Ä 1) Î))))) (ß á (Ä 0) (cF (.int 2)))) (ĵ (Ñ (ß á (Ä 1) (Ä 3)) Î))) cX (η (cF (.int 1)))) Î))) (Đ 2)) ô))) (Ï (ņ (Ų (Ä 0)) (Đ 4) ((Ï (Ĥ (ψ (ò (ß ż (ß á (Ä 4) (cF (.int 0))) (cF (.str "keeps")))) (ò (ß ż (ß á (Ä 2) (ß á (Ä 4) (cF (.int 1)))) (ß á (Ä 4) (cF (.int 3)))))) ((Ï (Č (č yci (Ñ (Ä 0) (Ñ (Ä 2) (Ñ (ß á (Ä 4) (cF (.int 2))) (Ñ (ß á (Ä 4) (cF (.int 4))) Î))))) (Đ 2)) ô)) ô) ô))) (Ï (Ć (Ä 2)) ô))))
noncomputable def dz:FF:=F_ 5 2 qf5
noncomputable def ydq:FS:=(Ï (Č (a7 (Ñ (ģ Î) Î)) (Đ 1)) (Ï (ņ (bz (Ñ (Ä 0) Î)) (Đ 2) ((Ï (Č (ß ł (Į false [none] (Ų (Ä 1)) (Đ 0) υ (ß ł (Ä 0) (ģ (Ñ (cF (.int 0)) Î)))) (Į false [none] (Ų (Ä 1)) (Đ 0) υ (ß ł (Ä 0) (ģ (Ñ (cF (.int 1)) Î))))) (Đ 1)) ô))) (Ï (Ć (č yhu (Ñ (Ä 1) Î))) ô)))
noncomputable def qat:FF:=F_ 3 1 ydq
noncomputable def qc7:FS:=(Ï (Ĥ (ò (ß ż (Ä 1) (cF (.str "up")))) ((Ï (Ć (lrF (Ñ (Ä 0) Î))) ô)) ô) (Ï (Ć (sl3F (lrF (Ñ (Ä 0) Î)) (negF (cF (.int 1))))) ô))
noncomputable def qa8:FF:=F_ 2 2 qc7
noncomputable def ydt:FS:=(Ï (Ĥ (ò (ß eO (Ä 0) (ģ (Ñ (cF (.str "stuck")) (Ñ (cF (.str "slow")) (Ñ (cF (.str "forgets")) (Ñ (cF (.str "misreads")) (Ñ (cF (.str "nowhere")) Î)))))))) ((Ï (Ć (ĵ (Ñ (ģ (Ñ (Ä 0) (Ñ (cF (.int 0)) (Ñ (cF (.int 0)) Î)))) (Ñ (ģ (Ñ (Ä 0) (Ñ (cF (.int 0)) (Ñ (cF (.int 1)) Î)))) Î)))) ô)) ô) (Ï (Č (dicF (yei (cF (.str "turns")) (ĵ (Ñ (ģ (Ñ (cF (.int 0)) Î)) (Ñ (ģ (Ñ (cF (.int 1)) Î)) Î))) (yei (cF (.str "other")) (ĵ (Ñ (ģ Î) Î)) (yei (cF (.str "both")) (ĵ (Ñ (ģ (Ñ (cF (.str "and")) Î)) (Ñ (ģ (Ñ (cF (.str "or")) Î)) Î))) nilP)))) (Đ 1)) (Ï (Č (a7 Î) (Đ 2)) (Ï (ņ (bz (Ñ (cF (.int 2)) Î)) (Đ 3) ((Ï (ř (cx (Ä 2) (Ñ (Į false [none,some 0,some 3] (Ų (getF (Ä 1) (Ä 0) (ĵ (Ñ (ģ (Ñ (cF (.int 0)) (Ñ (cF (.int 0)) Î))) (Ñ (ģ (Ñ (cF (.int 0)) (Ñ (cF (.int 1)) Î))) (Ñ (ģ (Ñ (cF (.int 1)) (Ñ (cF (.int 0)) Î))) (Ñ (ģ (Ñ (cF (.int 1)) (Ñ (cF (.int 1)) Î))) Î))))))) (Đ 0) υ (ß ł (ģ (Ñ (Ä 1) (Ñ (Ä 2) (Ñ (ß cV (cF (.int 1)) (Ä 2)) Î)))) (Ä 0))) Î))) ô))) (Ï (Ć (Ä 2)) ô)))))
noncomputable def yam:FF:=F_ 4 1 ydt
noncomputable def qf4:FS:=(Ï (Ć (ß á (ĵ (Ñ (cF (.int 2)) (Ñ (cF (.int 1)) Î))) (č intC (Ñ (ß eO (ß á (Ä 0) (cF (.int 0))) (ģ (Ñ (cF (.str "stuck")) (Ñ (cF (.str "slow")) (Ñ (cF (.str "forgets")) (Ñ (cF (.str "misreads")) (Ñ (cF (.str "nowhere")) Î))))))) Î)))) ô)
noncomputable def qbl:FF:=F_ 1 1 qf4
noncomputable def ydp:FS:=(Ï (Č (ĵ Î) (Đ 1)) (Ï (ņ (Ų (Ä 0)) (Đ 2) ((Ï (Č (ß ł (Ä 1) (č yam (Ñ (Ä 2) Î))) (Đ 1)) ô))) (Ï (Ć (Ä 1)) ô)))
noncomputable def yap:FF:=F_ 3 1 ydp
noncomputable def ycp:FS:=(Ï (Č (a7 Î) (Đ 1)) (Ï (ņ (Ų (č yap (Ñ (Ä 0) Î))) (Đ 2) ((Ï (ř (aA (Ä 1) (Ñ (č ax (Ñ (č qa1 (Ñ (Į false [none,some 2] (Ų (č qat (Ñ (č qbl (Ñ (Ä 2) Î)) Î))) (Đ 0) υ (č dz (Ñ (ĵ (Ñ (Ä 1) Î)) (Ñ (Ä 0) Î)))) Î)) Î)) Î))) ô))) (Ï (Ć (ģ (Ñ (cF .none) (Ñ (č ax (Ñ (Ä 1) Î)) Î)))) ô)))
noncomputable def yaq:FF:=F_ 3 1 ycp
noncomputable def yfb:FS:=(Ï (ņ (Ų (č qa8 (Ñ (č az (Ñ (Ä 1) Î)) (Ñ (ß á (Ä 2) (cF (.int 0))) Î)))) (Đ 3) ((Ï (ņ (Ų (ß á (Ä 2) (cF (.int 1)))) (Đ 4) ((Ï (Č (č qbv (Ñ (ĵ (Ñ (Ä 0) Î)) (Ñ (Ä 1) (Ñ (Ä 3) (Ñ (Ä 4) Î))))) (bN [1,5])) (Ï (Ĥ (ψ (ò (isNF true (Ä 5))) (ò (ß d7 (Ä 5) (ß á (Ä 4) (cF (.int 1)))))) ((Ï (Ć (cF .none)) ô)) ô) ô)))) ô))) (Ï (Ć (Ä 1)) ô))
noncomputable def ybc:FF:=F_ 6 3 yfb
noncomputable def qic:FS:=(Ï (Č (ß á (Ä 1) (cF (.int 0))) (Đ 3)) (Ï (ņ (Ų (ß á (Ä 2) (cF (.int 1)))) (Đ 4) ((Ï (Č (ß á (Ä 4) (cF (.int 1))) (Đ 3)) ô))) (Ï (Č (a7 Î) (Đ 5)) (Ï (ņ (cE (Ñ (č yap (Ñ (Ä 0) Î)) (Ñ (ß á (Ä 1) (cF (.int 1))) Î))) (bN [6,7]) ((Ï (Č (Į false [none,some 2,some 6] (Ų (Ä 7)) (Đ 0) υ (č ybc (Ñ (Ä 2) (Ñ (Ä 0) (Ñ (Ä 1) Î))))) (Đ 8)) (Ï (ř (aA (Ä 5) (Ñ (č ax (Ñ (č qa1 (Ñ (Į false [none] (Ų (Ä 8)) (Đ 0) (ò (isNF true (Ä 0))) (Ä 0)) Î)) Î)) Î))) ô)))) (Ï (Ć (ģ (Ñ (Ä 3) (Ñ (č ax (Ñ (Ä 5) Î)) Î)))) ô)))))
noncomputable def qdl:FF:=F_ 9 3 qic
noncomputable def yc0:FS:=(Ï (Č (ĵ (Ñ (cF (.str "stuck")) (Ñ (cF (.str "slow")) (Ñ (cF (.str "forgets")) (Ñ (cF (.str "misreads")) (Ñ (cF (.str "nowhere")) Î)))))) (Đ 1)) (Ï (Č (ĵ (Ñ (cF (.str "turns")) (Ñ (cF (.str "sets")) (Ñ (cF (.str "keeps")) (Ñ (cF (.str "other")) (Ñ (cF (.str "both")) Î)))))) (Đ 2)) (Ï (Ĥ (ò (ß gtB (ß ap (ß á (Ä 0) (cF (.int 0))) (cF (.int 3))) (cF (.int 0)))) ((Ï (Č (ß ap (ß á (Ä 0) (cF (.int 1))) (cF (.int 5))) (Đ 3)) (Ï (Ć (Į false [none,some 0,some 1,some 3] (bz (Ñ (ß ł (cF (.int 1)) (ß ap (ß á (Ä 0) (cF (.int 3))) (cF (.int 3)))) Î)) (Đ 0) υ (ß á (Ä 2) (ß ap (ß ł (Ä 3) (ß bo (ß á (Ä 1) (cF (.int 2))) (Ä 0))) (cF (.int 5)))))) ô))) ô) (Ï (Ć (ß ł (ĵ (Ñ (ß á (Ä 2) (ß ap (ß á (Ä 0) (cF (.int 1))) (cF (.int 5)))) Î)) (ß bo (ĵ (Ñ (ß á (Ä 1) (ß ap (ß á (Ä 0) (cF (.int 2))) (cF (.int 5)))) Î)) (ß ap (ß á (Ä 0) (cF (.int 3))) (cF (.int 2)))))) ô))))
noncomputable def qa3:FF:=F_ 4 1 yc0
noncomputable def yd6(F:FF):FS:=(Ï (Ĥ (ò (bQ "tuple" (Ä 1))) ((Ï (Ĥ (orF (χ (ò (bQ "tuple" (Ä 0)))) (ò (ß d7 (č az (Ñ (Ä 0) Î)) (č az (Ñ (Ä 1) Î))))) ((Ï (Ć (cF (.bool false))) ô)) ô) (Ï (Ć (ß ż (Į false [none,some 0,some 1] (bz (Ñ (č az (Ñ (Ä 1) Î)) Î)) (Đ 0) (χ (ò (č F (Ñ (ß á (Ä 1) (Ä 0)) (Ñ (ß á (Ä 2) (Ä 0)) Î))))) (Ä 0)) (ĵ Î))) ô))) ô) (Ï (Ć (bu (ß ż (Ä 0) (Ä 1)) (bu (ß ż (bQ "int" (Ä 0)) (bQ "int" (Ä 1))) (bvF (χ (ò (bQ "bool" (Ä 0)))))))) ô))
noncomputable def yaz:Nat->FF
 |0=>λ_ _=>none
 |n+1=>F_ 2 2 (yd6 (yaz n))
noncomputable def yan:FF:=yaz 5
noncomputable def yf7:FS:=(Ï (Č (a7 Î) (Đ 2)) (Ï (ņ (Ų (b5 (Ä 1) (η (cF (.int 2))) (η (ß ł (cF (.int 3)) (ß á (Ä 1) (cF (.int 1))))))) (Đ 3) ((Ï (Ĥ (ψ (ò (isNF true (Ä 0))) (ò (ß ż (ß ap (Ä 3) (cF (.int 2))) (cF (.int 0))))) ((Ï (ř (aA (Ä 2) (Ñ (ģ (Ñ (cF (.str "r")) (Ñ (Ä 0) Î))) Î))) ô)) ((Ï (Č (ß ap (ß cN (Ä 3) (cF (.int 2))) (cF (.int 2))) (Đ 0)) (Ï (ř (aA (Ä 2) (Ñ (ģ (Ñ (cF (.str "w")) (Ñ (Ä 0) Î))) Î))) ô)))) ô))) (Ï (Ć (ģ (Ñ (ß á (ĵ (Ñ (cF (.str "up")) (Ñ (cF (.str "down")) Î))) (ß á (Ä 1) (cF (.int 0)))) (Ñ (Ä 2) Î)))) ô)))
noncomputable def yb5:FF:=F_ 4 2 yf7
noncomputable def ygk:FS:=(Ï (Č (č ycx (Ñ (Ä 0) (Ñ (Ä 1) (Ñ (ß ł (ĵ (Ñ (cF (.int 9)) (Ñ (cF (.int 5)) (Ñ (cF (.int 4)) (Ñ (cF (.int 3)) (Ñ (cF (.int 6)) Î)))))) (ß bo (ß ł (ĵ (Ñ (cF (.int 2)) (Ñ (cF (.int 4)) Î))) (ß bo (ĵ (Ñ (cF (.int 4)) Î)) (cF (.int 4)))) (cF (.int 6)))) Î)))) (Đ 2)) (Ï (Č (č qa3 (Ñ (ĵ (Ñ (ß á (Ä 2) (cF (.int 0))) (Ñ (ß á (Ä 2) (cF (.int 1))) (Ñ (ß ł (cF (.int 1)) (ß á (Ä 2) (cF (.int 2)))) (Ñ (ß á (Ä 2) (cF (.int 3))) Î))))) Î)) (Đ 3)) (Ï (Č (č ya5 (Ñ (č bX (Ñ (Ä 3) Î)) Î)) (Đ 4)) (Ï (Ĥ (χ (ò (č yan (Ñ (Ä 4) (Ñ (č yaq (Ñ (Ä 3) Î)) Î))))) ((Ï (Ć (cF (.bool false))) ô)) ô) (Ï (ņ (bz (Ñ (ß ł (cF (.int 1)) (ß á (Ä 2) (cF (.int 4)))) Î)) (Đ 5) ((Ï (Č (č yb5 (Ñ (ß á (Ä 4) (cF (.int 0))) (Ñ (b5 (Ä 2) (η (ß ł (cF (.int 5)) (ß bo (cF (.int 6)) (Ä 5)))) (η (ß ł (cF (.int 11)) (ß bo (cF (.int 6)) (Ä 5))))) Î))) (Đ 6)) (Ï (Č (ģ (Ñ (ß á (Ä 6) (cF (.int 0))) (Ñ (č bX (Ñ (ß á (Ä 6) (cF (.int 1))) Î)) Î))) (Đ 7)) (Ï (Č (č qdl (Ñ (Ä 3) (Ñ (Ä 4) (Ñ (Ä 6) Î)))) (Đ 8)) (Ï (Č (č ybv (Ñ (č bX (Ñ (Ä 3) Î)) (Ñ (Ä 4) (Ñ (Ä 7) Î)))) (Đ 9)) (Ï (Ĥ (orF (χ (ò (č yan (Ñ (Ä 9) (Ñ (Ä 8) Î))))) (ò (ß d7 (Ä 7) (Ä 6)))) ((Ï (Ć (cF (.bool false))) ô)) ô) (Ï (Ĥ (χ (ò (č yan (Ñ (č ya5 (Ñ (Ä 3) Î)) (Ñ (č yaq (Ñ (Ä 3) Î)) Î))))) ((Ï (Ć (cF (.bool false))) ô)) ô) (Ï (Ĥ (χ (ò (č yan (Ñ (č ybv (Ñ (č bX (Ñ (Ä 3) Î)) (Ñ (Ä 4) (Ñ (Ä 7) Î)))) (Ñ (Ä 8) Î))))) ((Ï (Ć (cF (.bool false))) ô)) ô) (Ï (Č (Ä 9) (Đ 4)) ô)))))))))) (Ï (Ć (cF (.bool true))) ô))))))
noncomputable def yb2:FF:=F_ 10 2 ygk
noncomputable def B_law:FS:=(Ï (ņ (cZ (Ñ (b5 (ß ł (Ä 0) (ĵ (Ñ (cF (.int 5)) Î))) cX (η (cF (.int 12)))) Î)) (bN [1,2]) ((Ï (Ĥ (χ (ò (č yb2 (Ñ (Ä 2) (Ñ (Ä 1) Î))))) ((Ï (Ć (cF (.bool false))) ô)) ô) ô))) (Ï (Ć (cF (.bool true))) ô))
noncomputable def F_law:FF:=F_ 3 1 B_law
mutual
noncomputable def deq:Â->Â->Bool
 |.none,.none=>true
 |.bool a,.bool b=>a == b
 |.int a,.int b=>decide (a=b)
 |.str a,.str b=>decide (a=b)
 |.list a,.list b=>eP a b
 |.tuple a,.tuple b=>eP a b
 |_,_=>false
noncomputable def eP:List Â->List Â->Bool
 |[],[]=>true
 |a::r,b::s=>deq a b&&eP r s
 |_,_=>false
end
mutual
theorem ee:∀{a b:Â},deq a b=true->a=b
 |.none,b,h=>by cases b<;>first|rfl|cases h
 |.bool x,b,h=>by cases b<;>first|(cases h;done)|exact congrArg _ (Ď h)
 |.int x,b,h=>by cases b<;>first|(cases h;done)|exact congrArg _ (of_decide_eq_true h)
 |.str x,b,h=>by cases b<;>first|(cases h;done)|exact congrArg _ (of_decide_eq_true h)
 |.list x,b,h=>by cases b<;>first|(cases h;done)|exact congrArg _ (qen h)
 |.tuple x,b,h=>by cases b<;>first|(cases h;done)|exact congrArg _ (qen h)
 |.dict x,b,h=>by cases b<;>cases h
theorem qen:∀{a b:List Â},eP a b=true->a=b
 |[],[],_=>rfl
 |[],_::_,h=>by cases h
 |_::_,[],h=>by cases h
 |a::r,b::s,h=>by
  have h:(deq a b&&eP r s)=true:=h;rw[Å]at h;rw[ee h.1,qen h.2]
end
noncomputable def kt:List (Str×Int×List Â):=[("stuck",1,[.tuple [.str "stuck",.int 0,.int 0],.tuple [.str "stuck",.int 0,.int 1]]),("slow",1,[.tuple [.str "slow",.int 0,.int 0],.tuple [.str "slow",.int 0,.int 1]]),("forgets",1,[.tuple [.str "forgets",.int 0,.int 0],.tuple [.str "forgets",.int 0,.int 1]]),("misreads",1,[.tuple [.str "misreads",.int 0,.int 0],.tuple [.str "misreads",.int 0,.int 1]]),("turns",2,[.tuple [.str "turns",.int 0,.int 1,.int 0],.tuple [.str "turns",.int 0,.int 1,.int 1],.tuple [.str "turns",.int 1,.int 0,.int 0],.tuple [.str "turns",.int 1,.int 0,.int 1]]),("sets",2,[.tuple [.str "sets",.int 0,.int 1,.int 0,.int 0],.tuple [.str "sets",.int 0,.int 1,.int 0,.int 1],.tuple [.str "sets",.int 0,.int 1,.int 1,.int 0],.tuple [.str "sets",.int 0,.int 1,.int 1,.int 1],.tuple [.str "sets",.int 1,.int 0,.int 0,.int 0],.tuple [.str "sets",.int 1,.int 0,.int 0,.int 1],.tuple [.str "sets",.int 1,.int 0,.int 1,.int 0],.tuple [.str "sets",.int 1,.int 0,.int 1,.int 1]]),("keeps",2,[.tuple [.str "keeps",.int 0,.int 1,.int 0,.int 0],.tuple [.str "keeps",.int 0,.int 1,.int 0,.int 1],.tuple [.str "keeps",.int 0,.int 1,.int 1,.int 0],.tuple [.str "keeps",.int 0,.int 1,.int 1,.int 1],.tuple [.str "keeps",.int 1,.int 0,.int 0,.int 0],.tuple [.str "keeps",.int 1,.int 0,.int 0,.int 1],.tuple [.str "keeps",.int 1,.int 0,.int 1,.int 0],.tuple [.str "keeps",.int 1,.int 0,.int 1,.int 1]]),("nowhere",1,[.tuple [.str "nowhere",.int 0,.int 0],.tuple [.str "nowhere",.int 0,.int 1]]),("other",2,[.tuple [.str "other",.int 0,.int 1],.tuple [.str "other",.int 1,.int 0]]),("both",2,[.tuple [.str "both",.int 0,.int 1,.str "and"],.tuple [.str "both",.int 0,.int 1,.str "or"],.tuple [.str "both",.int 1,.int 0,.str "and"],.tuple [.str "both",.int 1,.int 0,.str "or"]])]
noncomputable def aQ(n:Int):List Â:=if n=1 then [.tuple [.int 0],.tuple [.int 1]] else [.tuple [.int 0,.int 0],.tuple [.int 0,.int 1],.tuple [.int 1,.int 0],.tuple [.int 1,.int 1]]
noncomputable def dU(n:Int):List Â:=if n=1 then [.int 0] else [.int 0,.int 1]
noncomputable def stps:List Â:=[.tuple [.str "w",.int 0],.tuple [.str "w",.int 1],.tuple [.str "r",.int 0],.tuple [.str "r",.int 1]]
noncomputable def hs:List (Int×Â):=kt.flatMap λe=>e.2.2.map λh=>(e.2.1,h)
noncomputable def cf(h c a s:Â):Â:=(val ycf [.list [h],c,a,s]).getD .none
noncomputable def itm1(s:Â):Â:=match s with
 |.tuple [_,b]=>b
 |_=>.none
noncomputable def chkS(n:Int)(h c a s:Â):Bool:=match val qbv [.list [h],c,a,s] with
 |some (.tuple [held,bit])=>match val ycf [.list [h],c,a,s] with
  |some r=>match bit with
   |.none=>deq r held&&(aQ n).any (deq held)
   |.int i=>match itm1 s with
    |.int j=>if i=j then deq r held&&(aQ n).any (deq held) else deq r .none
    |_=>false
   |_=>false
  |none=>false
 |_=>false
noncomputable abbrev ckE:Int×Â->Bool:=λe=>(aQ e.1).all λc=>(dU e.1).all λa=>stps.all λs=>chkS e.1 e.2 c a s
theorem ck0:((hs.drop 0).take 6).all ckE=true:=by decide +kernel
theorem ck1:((hs.drop 6).take 6).all ckE=true:=by decide +kernel
theorem ck2:((hs.drop 12).take 6).all ckE=true:=by decide +kernel
theorem ck3:((hs.drop 18).take 6).all ckE=true:=by decide +kernel
theorem ck4:((hs.drop 24).take 6).all ckE=true:=by decide +kernel
theorem ck5:((hs.drop 30).take 6).all ckE=true:=by decide +kernel
theorem chk_all:hs.all ckE=true:=by
 rw[show hs=(hs.drop 0).take 6++((hs.drop 6).take 6++((hs.drop 12).take 6++((hs.drop 18).take 6++((hs.drop 24).take 6++(hs.drop 30).take 6)))) from rfl];rw[all_append,all_append,all_append,all_append,all_append,ck0,ck1,ck2,ck3,ck4,ck5];rfl
theorem qeu{l:List Â}{x:Â}(h:l.any (deq x)=true):x∈l:=by
 obtain ⟨y,hy,e⟩:=any_eq_true.mp h;rw[ee e];exact hy
theorem yc3{n:Int}{c:Â}(h:c∈aQ n):∃l,c=.tuple l:=by
 unfold aQ at h;split at h<;>simp only[ñ,Ņ,or_false]at h
 ·rcases h with rfl|rfl<;>exact ⟨_,rfl⟩
 ·rcases h with rfl|rfl|rfl|rfl<;>exact ⟨_,rfl⟩
theorem qiz{s:Â}(h:s∈stps):∃w i,s=.tuple [.str w,.int i]:=by
 unfold stps at h;simp only[ñ,Ņ,or_false]at h;rcases h with rfl|rfl|rfl|rfl<;>exact ⟨_,_,rfl⟩
theorem qgk{n:Int}{h c a s:Â}(hh:(n,h)∈hs)(hc:c∈aQ n)(ha:a∈dU n)(hs':s∈stps):∃held bit,val qbv [.list [h],c,a,s]=some (.tuple [held,bit])/\val ycf [.list [h],c,a,s]=some (cf h c a s)/\
  ((cf h c a s=held/\held∈aQ n/\(bit=.none\/∃i w,bit=.int i/\s=.tuple [.str w,.int i]))\/(cf h c a s=.none/\∃i j w,bit=.int i/\s=.tuple [.str w,.int j]/\i≠j)):=by
 have k:=Û.mp chk_all _ hh;have k:=Û.mp (Û.mp (Û.mp k c hc) a ha) s hs';obtain ⟨w,j,rfl⟩:=qiz hs';unfold chkS at k;split at k
 ·rename_i held bit e1
  split at k
  ·rename_i r e2
   have er:cf h c a (.tuple [.str w,.int j])=r:=by unfold cf;rw[e2];rfl
   rw[er];refine ⟨held,bit,e1,e2,?_⟩;split at k
   ·rw[Å]at k;exact .inl ⟨ee k.1,qeu k.2,.inl rfl⟩
   ·rename_i i
    simp only[itm1]at k;split at k
    ·rename_i e
     subst e;rw[Å]at k;exact .inl ⟨ee k.1,qeu k.2,.inr ⟨_,_,rfl,rfl⟩⟩
    ·exact .inr ⟨ee k,_,_,_,rfl,rfl,by assumption⟩
   ·cases k
  ·cases k
 ·cases k
noncomputable def ļ(h:Â):Â->List (Â×Â)->Â
 |c,[]=>c
 |c,(a,s)::r=>match cf h c a s with
  |.none=>.none
  |c'=>ļ h c' r
theorem yia{h c a s:Â}{r:List (Â×Â)}(e:cf h c a s=.none):ļ h c ((a,s)::r)=.none:=by
 show (match cf h c a s with|.none=>ξ|c'=>ļ h c' r)=_;rw[e]
theorem yj9{n:Int}{h c a s c':Â}{r:List (Â×Â)}(e:cf h c a s=c')(m:c'∈aQ n):ļ h c ((a,s)::r)=ļ h c' r:=by
 show (match cf h c a s with|.none=>ξ|c'=>ļ h c' r)=_;rw[e];obtain ⟨l,rfl⟩:=yc3 m;rfl
theorem qgv{n:Int}{h:Â}:∀{l r:List (Â×Â)}{c c':Â},ļ h c l=c'->c'∈aQ n->ļ h c (l++r)=ļ h c' r
 |[],r,c,c',e,m=>by cases e;rfl
 | (a,s)::l,r,c,c',e,m=>by
  have e:(match cf h c a s with|.none=>ξ|c'=>ļ h c' l)=c':=e;show (match cf h c a s with|.none=>ξ|c'=>ļ h c' (l++r))=_;split at e
  ·obtain ⟨l,e2⟩:=yc3 m;rw[<-e]at e2;cases e2
  ·rename_i x hx
   exact qgv e m
theorem ydb{h:Â}:∀{l r:List (Â×Â)}{c:Â},ļ h c l=.none->c≠.none->ļ h c (l++r)=.none
 |[],r,c,e,m=>absurd e m
 | (a,s)::l,r,c,e,m=>by
  have e:(match cf h c a s with|.none=>ξ|c'=>ļ h c' l)=.none:=e;show (match cf h c a s with|.none=>ξ|c'=>ļ h c' (l++r))=_;split at e
  ·rfl
  ·rename_i x hx
   exact ydb e hx
theorem asg_tp{e:FE}{ρ:Dp.DEnv}{S S':OS}{x y:Â}{i j:Nat}(h:e ρ S=some (.d (.tuple [x,y]),S')):Č e (bN [i,j]) ρ S=some (.nx ((ρ.set i (some (.d x))).set j (some (.d y))),S'):=by
 unfold Č;rw[h];rfl
theorem bits_ne{n:Int}{c:Â}(h:c∈aQ n):c≠.none:=by
 obtain ⟨l,rfl⟩:=yc3 h;exact λz=>nomatch z
noncomputable abbrev yb9:FS:=Ï (Č (č qbv (Ñ (ĵ (Ñ (Ä 0) Î)) (Ñ (Ä 1) (Ñ (Ä 3) (Ñ (Ä 4) Î))))) (bN [1,5])) (Ï (Ĥ (ψ (ò (isNF true (Ä 5))) (ò (ß d7 (Ä 5) (ß á (Ä 4) (cF (.int 1)))))) ((Ï (Ć (cF .none)) ô)) ô) ô)
theorem lb_in{n:Int}{h:Â}(hh:(n,h)∈hs){el a:Â}(ha:a∈dU n){S:OS}:∀(ss:List Â),(∀s∈ss,s∈stps)->∀{c:Â},c∈aQ n->∀x4 x5,∃o,Dp.Ľ (Đ 4) yb9 (ss.map .d) [some (.d h),some (.d c),some (.d el),some (.d a),x4,x5] S=some (o,S)/\
  ((∃c' x4' x5',c'∈aQ n/\o=.nx [some (.d h),some (.d c'),some (.d el),some (.d a),x4',x5']/\ļ h c (ss.map (a,·))=c')\/(o=.rt (.d .none)/\ļ h c (ss.map (a,·))=.none))
 |[],_,c,hc,x4,x5=>⟨_,rfl,.inl ⟨c,x4,x5,hc,rfl,rfl⟩⟩
 |s::ss,hs',c,hc,x4,x5=>by
  obtain ⟨held,bit,e1,e2,q⟩:=qgk hh hc ha (hs' s Ì);have rest:=λ(c':Â) (hc':c'∈aQ n) x4 x5=>lb_in hh (el:=el) ha (S:=S) ss (λs hs=>hs' s (Ê _ hs)) hc' x4 x5;rcases q with ⟨q1,q2,q3⟩|⟨q1,i,j,w,rfl,rfl,ne⟩
  ·obtain ⟨o,g1,g2⟩:=rest held q2 (some (.d s)) (some (.d bit));refine ⟨o,?_,?_⟩
   ·unfold Dp.Ľ;show ((yb9 [some (.d h),some (.d c),some (.d el),some (.d a),some (.d s),x5] S).bind λq=>bT q (Dp.Ľ (Đ 4) yb9 (ss.map .d)))=_;have:yb9 [some (.d h),some (.d c),some (.d el),some (.d a),some (.d s),x5] S=some (.nx [some (.d h),some (.d held),some (.d el),some (.d a),some (.d s),some (.d bit)],S):=by
     refine Ş (asg_tp (bU (dd:=[.list [h],c,a,s]) rfl e1)) (Ş (qf9 ?_ rfl) rfl);rcases q3 with rfl|⟨i,w,rfl,rfl⟩
     ·rfl
     ·show some (xor true (decide (i=i)),S)=_;simp
    rw[this];exact g1
   ·show (∃c' x4' x5',c'∈aQ n/\o=_/\ļ h c ((a,s)::ss.map (a,·))=c')\/(o=_/\ļ h c ((a,s)::ss.map (a,·))=.none);rw[yj9 q1 q2];exact g2
  ·refine ⟨.rt (.d .none),?_,.inr ⟨rfl,yia q1⟩⟩;unfold Dp.Ľ;show ((yb9 [some (.d h),some (.d c),some (.d el),some (.d a),some (.d (.tuple [.str w,.int j])),x5] S).bind λq=>bT q (Dp.Ľ (Đ 4) yb9 (ss.map .d)))=_;have:yb9 [some (.d h),some (.d c),some (.d el),some (.d a),some (.d (.tuple [.str w,.int j])),x5] S=some (.rt (.d .none),S):=by
    refine Ş (asg_tp (bU (dd:=[.list [h],c,a,_]) rfl e1)) (b9 (yh5 ?_ rfl));show some (xor true (decide (i=j)),S)=_;simp[ne]
   rw[this];rfl
noncomputable abbrev lbOut:FS:=Ï (ņ (Ų (ß á (Ä 2) (cF (.int 1)))) (Đ 4) yb9) ô
theorem lb_out{n:Int}{h:Â}(hh:(n,h)∈hs){ss:List Â}(hss:∀s∈ss,s∈stps){o:Â}{S:OS}:∀(as:List Â),(∀a∈as,a∈dU n)->∀{c:Â},c∈aQ n->∀x3 x4 x5,∃r,Dp.Ľ (Đ 3) lbOut (as.map .d) [some (.d h),some (.d c),some (.d (.tuple [o,.list ss])),x3,x4,x5] S=some (r,S)/\
  ((∃c' x3' x4' x5',c'∈aQ n/\r=.nx [some (.d h),some (.d c'),some (.d (.tuple [o,.list ss])),x3',x4',x5']/\ļ h c (as.flatMap λa=>ss.map (a,·))=c')\/(r=.rt (.d .none)/\ļ h c (as.flatMap λa=>ss.map (a,·))=.none))
 |[],_,c,hc,x3,x4,x5=>⟨_,rfl,.inl ⟨c,x3,x4,x5,hc,rfl,rfl⟩⟩
 |a::as,ha,c,hc,x3,x4,x5=>by
  obtain ⟨r,g1,g2⟩:=lb_in hh (el:=.tuple [o,.list ss]) (ha a Ì) (S:=S) ss hss hc x4 x5;have hb:∀r',r'=r->lbOut [some (.d h),some (.d c),some (.d (.tuple [o,.list ss])),some (.d a),x4,x5] S=(some (r,S)).bind λq=>bT q ô:=λr' _=>by
   show ((ņ (Ų (ß á (Ä 2) (cF (.int 1)))) (Đ 4) yb9 [some (.d h),some (.d c),some (.d (.tuple [o,.list ss])),some (.d a),x4,x5] S).bind _)=_;rw[dj (es:=ss.map .d) (S':=S) rfl g1]
  have hb:=hb r rfl;show ∃r,((lbOut [some (.d h),some (.d c),some (.d (.tuple [o,.list ss])),some (.d a),x4,x5] S).bind λq=>bT q (Dp.Ľ (Đ 3) lbOut (as.map .d)))=some (r,S)/\((∃c' x3' x4' x5',c'∈aQ n/\r=_/\ļ h c (ss.map (a,·)++as.flatMap λa=>ss.map (a,·))=c')\/(r=_/\ļ h c (ss.map (a,·)++as.flatMap λa=>ss.map (a,·))=.none));rw[hb];rcases g2 with ⟨c',y4,y5,m,rfl,e⟩|⟨rfl,e⟩
  ·obtain ⟨r2,k1,k2⟩:=lb_out hh hss (o:=o) (S:=S) as (λa h=>ha a (Ê _ h)) m (some (.d a)) y4 y5;rw[qgv e m];exact ⟨r2,k1,k2⟩
  ·exact ⟨_,rfl,.inr ⟨rfl,ydb e (bits_ne hc)⟩⟩
noncomputable def ce(n:Int)(o:Â):List Â:=match o with
 |.str z=>if z="up" then dU n else (dU n).reverse
 |_=>[]
noncomputable def ords:List Â:=[.str "up",.str "down"]
theorem tup_len{n:Int}{c:Â}(hn:n=1\/n=2)(h:c∈aQ n):∃l,c=.tuple l/\(l.length:Int)=n:=by
 unfold aQ at h;rcases hn with rfl|rfl<;>simp at h
 ·rcases h with rfl|rfl<;>exact ⟨_,rfl,rfl⟩
 ·rcases h with rfl|rfl|rfl|rfl<;>exact ⟨_,rfl,rfl⟩
theorem addr_tab:([1,2].all λn:Int=>ords.all λo=>match val qa8 [.int n,o] with|some d=>deq d (.list (ce n o))|none=>false)=true:=by decide +kernel
theorem qi8{n:Int}(hn:n=1\/n=2){o:Â}(ho:o∈ords):val qa8 [.int n,o]=some (.list (ce n o)):=by
 have:=Û.mp (Û.mp addr_tab n (by rcases hn with rfl|rfl<;>simp)) o ho;split at this
 ·rename_i d e
  rw[e,ee this]
 ·cases this
theorem yjh{n:Int}{o a:Â}(h:a∈ce n o):a∈dU n:=by
 unfold ce at h;split at h
 ·split at h
  ·exact h
  ·exact List.mem_reverse.mp h
 ·cases h
noncomputable def prs(n:Int)(o:Â)(ss:List Â):List (Â×Â):=(ce n o).flatMap λa=>ss.map (a,·)
theorem yf5{n:Int}{h:Â}(hh:(n,h)∈hs)(hn:n=1\/n=2){ss:List Â}(hss:∀s∈ss,s∈stps){o c:Â}(ho:o∈ords)(hc:c∈aQ n):val ybc [h,c,.tuple [o,.list ss]]=some (ļ h c (prs n o ss))/\(ļ h c (prs n o ss)=.none\/ļ h c (prs n o ss)∈aQ n):=by
 obtain ⟨r,g1,g2⟩:=lb_out hh hss (o:=o) (S:=[]) (ce n o) (λa h=>yjh h) hc none none none;obtain ⟨l,rfl,hl⟩:=tup_len hn hc;rcases g2 with ⟨c',y3,y4,y5,m,rfl,e⟩|⟨rfl,e⟩
 ·refine ⟨?_,.inr (by unfold prs;rw[e];exact m)⟩;unfold prs;rw[e];refine dM (r:=.d c') (S1:=[]) (S2:=[]) (ca rfl (Ş (dj (es:=(ce n o).map .d) ?_ g1) rfl)) rfl;exact it_l (bU (dd:=[.int n,o]) (ś (v:=.d (.int n)) (b6 (ś rfl rfl) (by rw[len_t,hl])) (ś rfl rfl)) (qi8 hn ho))
 ·refine ⟨?_,.inl (by unfold prs;rw[e])⟩;unfold prs;rw[e];refine dM (r:=.d .none) (S1:=[]) (S2:=[]) (ca rfl (b9 (dj (es:=(ce n o).map .d) ?_ g1))) rfl;exact it_l (bU (dd:=[.int n,o]) (ś (v:=.d (.int n)) (b6 (ś rfl rfl) (by rw[len_t,hl])) (ś rfl rfl)) (qi8 hn ho))
noncomputable abbrev lit(n:Int)(h:Â)(j:Nat):OD:=.ins "Little" [("harms",.d (.list [h])),("span",.d (.int n)),("found",.r j)]
noncomputable def eZ(n:Int)(h:Â)(ps:List (Â×Dp.DV)):Prop:=∀e∈ps,∃c a s,c∈aQ n/\a∈dU n/\s∈stps/\e.1=.tuple [c,a,s]/\e.2=.d (cf h c a s)
theorem key_tab:([1,2].all λn:Int=>(aQ n).all λc=>(dU n).all λa=>stps.all λs=>bE (.tuple [c,a,s]))=true:=by decide +kernel
theorem qcv{n:Int}(hn:n=1\/n=2){c a s:Â}(hc:c∈aQ n)(ha:a∈dU n)(hs':s∈stps):bE (.tuple [c,a,s])=true:=
 Û.mp (Û.mp (Û.mp (Û.mp key_tab n (by rcases hn with rfl|rfl<;>simp)) c hc) a ha) s hs'
theorem done_ok{n:Int}{h c a s:Â}(hh:(n,h)∈hs)(hn:n=1\/n=2)(hc:c∈aQ n)(ha:a∈dU n)(hs':s∈stps){S:OS}{i j:Nat}{ps:List (Â×Dp.DV)}(hi:S[i]?=some (lit n h j))(hj:S[j]?=some (.dt ps))(ck:eZ n h ps)(hl:ps.length<most) :
  ∃ps',qa6 [.r i,.d c,.d a,.d s] S=some (.d (cf h c a s),S.set j (.dt ps'))/\eZ n h ps'/\ps'.length<=ps.length+1:=by
 obtain ⟨held,bit,e1,e2,_⟩:=qgk hh hc ha hs';have hk:=qcv hn hc ha hs';have ne:i≠j:=λz=>by rw[z,hj]at hi;cases hi
 cases hv:aK ps (.tuple [c,a,s]) with
 |some v=>
  obtain ⟨e,he,q1,q2⟩:=valG_mem hv;obtain ⟨c',a',s',m1,m2,m3,m4,m5⟩:=ck e he;have:e.1=.tuple [c,a,s]:=(ycm _ _ (by rw[m4];exact qgp (qcv hn m1 m2 m3)) (qgp hk)).mp q1;rw[m4]at this;cases this;rw[m5]at q2;subst q2;refine ⟨ps,?_,ck,le_succ _⟩;rw[qcb hj];refine (ydv rfl).trans (ca rfl (Ş (bI (v:=.d (.tuple [c,a,s])) rfl) (Ş (qf9 (yf4 (op_eq rfl (ybz rfl hi rfl rfl) (ni_dt hj hk |>.trans (by rw[hv];rfl)))) rfl) (b9 (eE (op_eq (ybz rfl hi rfl rfl) rfl (ykg hj hk hv)))))))
 |none=>
  obtain ⟨p1,p2⟩:=qg7 (v:=.d (cf h c a s)) hk hv;refine ⟨ps++[(.tuple [c,a,s],.d (cf h c a s))],?_,λe he=>?_,by simp⟩
  ·have hi2:(S.set j (.dt (ps++[(.tuple [c,a,s],.d (cf h c a s))])))[i]?=some (lit n h j):=by rw[í (ń ne)];exact hi
   have hj2:(S.set j (.dt (ps++[(.tuple [c,a,s],.d (cf h c a s))])))[j]?=some (.dt (ps++[(.tuple [c,a,s],.d (cf h c a s))])):=ą (É.mp hj).1;refine (ydv rfl).trans (ca rfl (Ş (bI (v:=.d (.tuple [c,a,s])) rfl) (Ş (yh5 (yf4 (op_eq rfl (ybz rfl hi rfl rfl) (ni_dt hj hk |>.trans (by rw[hv];rfl)))) (Ş (set_dt (bU (dd:=[.list [h],c,a,s]) (ś (ybz rfl hi rfl rfl) rfl) e2) (ybz rfl hi rfl rfl) rfl hj hk hl) rfl)) (b9 (eE (op_eq (ybz rfl (by rw[p1];exact hi2) rfl rfl) rfl (by rw[p1];exact ykg hj2 hk p2)))))))
  ·rcases ŀ.mp he with he|he
   ·exact ck e he
   ·rw[ê.mp he];exact ⟨c,a,s,hc,ha,hs',rfl,rfl⟩
noncomputable abbrev qd3:FS:=Ï (Č (cK "done" [("Little",qa6)] (Ä 0) (Ñ (Ä 1) (Ñ (Ä 3) (Ñ (Ä 4) Î)))) (Đ 1)) (Ï (Ĥ (ò (isNF false (Ä 1))) ((Ï (Ć (cF .none)) ô)) ô) ô)
theorem qjo{n:Int}{h:Â}(hh:(n,h)∈hs)(hn:n=1\/n=2){i j:Nat}{D:Option Dp.DV}:∀(l:List (Â×Â)),(∀p∈l,p.1∈dU n/\p.2∈stps)->∀{c:Â},c∈aQ n->∀{S:OS}{ps:List (Â×Dp.DV)},S[i]?=some (lit n h j)->S[j]?=some (.dt ps)->eZ n h ps->ps.length+l.length<most->∀x3 x4,
  ∃o ps',Dp.Ľ (bN [3,4]) qd3 (l.map λp=>.d (.tuple [p.1,p.2])) [some (.r i),some (.d c),D,x3,x4] S=some (o,S.set j (.dt ps'))/\eZ n h ps'/\ps'.length<=ps.length+l.length/\
  ((∃c' x3' x4',c'∈aQ n/\o=.nx [some (.r i),some (.d c'),D,x3',x4']/\ļ h c l=c')\/(o=.rt (.d .none)/\ļ h c l=.none))
 |[],_,c,hc,S,ps,hi,hj,ck,hl,x3,x4=>⟨_,ps,by rw[qcb hj];rfl,ck,Ò _,.inl ⟨c,x3,x4,hc,rfl,rfl⟩⟩
 | (a,s)::l,hp,c,hc,S,ps,hi,hj,ck,hl,x3,x4=>by
  obtain ⟨ha,hs'⟩:=hp (a,s) Ì;have hl':ps.length+(l.length+1)<most:=hl;obtain ⟨ps1,d1,d2,d3⟩:=done_ok hh hn hc ha hs' hi hj ck (by omega);have ne:i≠j:=λz=>by rw[z,hj]at hi;cases hi
  have hi1:(S.set j (.dt ps1))[i]?=some (lit n h j):=by rw[í (ń ne)];exact hi
  have hj1:(S.set j (.dt ps1))[j]?=some (.dt ps1):=ą (É.mp hj).1;have hm:cK "done" [("Little",qa6)] (Ä 0) (Ñ (Ä 1) (Ñ (Ä 3) (Ñ (Ä 4) Î))) [some (.r i),some (.d c),D,some (.d a),some (.d s)] S=some (.d (cf h c a s),S.set j (.dt ps1)):=yb3 rfl hi rfl rfl rfl d1;obtain ⟨held,bit,_,_,q⟩:=qgk hh hc ha hs';have go:∀r,(qd3 [some (.r i),some (.d c),D,some (.d a),some (.d s)] S).bind (λq=>bT q (Dp.Ľ (bN [3,4]) qd3 (l.map λp=>.d (.tuple [p.1,p.2]))))=r->Dp.Ľ (bN [3,4]) qd3 (((a,s)::l).map λp=>.d (.tuple [p.1,p.2])) [some (.r i),some (.d c),D,x3,x4] S=r:=λr h=>h;rcases q with ⟨q1,q2,_⟩|⟨q1,_⟩
  ·obtain ⟨o,ps',g1,g2,g3,g4⟩:=qjo hh hn (D:=D) l (λp hp'=>hp p (Ê _ hp')) q2 hi1 hj1 d2 (by omega) (some (.d a)) (some (.d s));rw[List.set_set]at g1;refine ⟨o,ps',go _ ?_,g2,by simp only[Ė];omega,?_⟩
   ·have:qd3 [some (.r i),some (.d c),D,some (.d a),some (.d s)] S=some (.nx [some (.r i),some (.d held),D,some (.d a),some (.d s)],S.set j (.dt ps1)):=by
     refine Ş (bI hm) ?_;rw[q1];obtain ⟨t,rfl⟩:=yc3 q2;rfl
    rw[this];exact g1
   ·rw[yj9 q1 q2];exact g4
  ·refine ⟨.rt (.d .none),ps1,go _ ?_,d2,by simp only[Ė];omega,.inr ⟨rfl,yia q1⟩⟩;have:qd3 [some (.r i),some (.d c),D,some (.d a),some (.d s)] S=some (.rt (.d .none),S.set j (.dt ps1)):=by
    refine Ş (bI hm) ?_;rw[q1];rfl
   rw[this];rfl
noncomputable def Res(n:Int)(r:Â):Prop:=r=.none\/r∈aQ n
theorem yga{n:Int}{h:Â}(hh:(n,h)∈hs)(hn:n=1\/n=2){i j:Nat}{l:List (Â×Â)}(hp:∀p∈l,p.1∈dU n/\p.2∈stps){c:Â}(hc:c∈aQ n){S:OS}{ps:List (Â×Dp.DV)}(hi:S[i]?=some (lit n h j))(hj:S[j]?=some (.dt ps))(ck:eZ n h ps)(hl:ps.length+l.length<most) :
  ∃ps',ya1 [.r i,.d c,.d (.list (l.map λp=>.tuple [p.1,p.2]))] S=some (.d (ļ h c l),S.set j (.dt ps'))/\eZ n h ps'/\ps'.length<=ps.length+l.length/\Res n (ļ h c l):=by
 obtain ⟨o,ps',g1,g2,g3,g4⟩:=qjo hh hn (D:=some (.d (.list (l.map λp=>.tuple [p.1,p.2])))) l hp hc hi hj ck hl none none;have it:Ų (Ä 2) [some (.r i),some (.d c),some (.d (.list (l.map λp=>.tuple [p.1,p.2]))),none,none] S=some (l.map λp=>.d (.tuple [p.1,p.2]),S):=by
  refine (it_l rfl).trans ?_;rw[ŷ];rfl
 rcases g4 with ⟨c',x3,x4,m,rfl,e⟩|⟨rfl,e⟩
 ·exact ⟨ps',(ydv rfl).trans (ca rfl (Ş (dj it g1) (by rw[e];rfl))),g2,g3,.inr (by rw[e];exact m)⟩
 ·exact ⟨ps',(ydv rfl).trans (ca rfl (b9 (by rw[e];exact dj it g1))),g2,g3,.inl e⟩
noncomputable def upto(A:List Â):Nat->List (List Â)
 |0=>[[]]
 |k+1=>[]::A.flatMap λa=>(upto A k).map (a :: ·)
theorem qbu{A:List Â}:∀{k:Nat}{l:List Â},l.length<=k->(∀x∈l,x∈A)->l∈upto A k
 |0,[],_,_=>Ì
 |0,_::_,h,_=>absurd h (by simp)
 |k+1,[],_,_=>Ì
 |k+1,x::l,h,m=>Ê _ (List.mem_flatMap.mpr ⟨x,m x Ì,mem_map.mpr ⟨l,qbu (by simpa using h) λy hy=>m y (Ê _ hy),rfl⟩⟩)
noncomputable def prsD(n:Int)(o:Â)(ss:List Â):Â:=.list ((prs n o ss).map λp=>.tuple [p.1,p.2])
noncomputable def bY(n:Int)(o:Â)(ss:List Â):Bool:=match val qb7 [o,.list ss,.int n] with
 |some d=>deq d (prsD n o ss)
 |none=>false
theorem dt0:((upto stps 4).all λss=>bY 1 (.str "up") ss)=true:=by decide +kernel
theorem dt1:((upto stps 4).all λss=>bY 1 (.str "down") ss)=true:=by decide +kernel
theorem dt2:(((upto stps 4).take 200).all λss=>bY 2 (.str "up") ss)=true:=by decide +kernel
theorem dt3:(((upto stps 4).drop 200).all λss=>bY 2 (.str "up") ss)=true:=by decide +kernel
theorem dt4:(((upto stps 4).take 200).all λss=>bY 2 (.str "down") ss)=true:=by decide +kernel
theorem dt5:(((upto stps 4).drop 200).all λss=>bY 2 (.str "down") ss)=true:=by decide +kernel
theorem ykf{α:Type}{l:List α}{f:α->Bool}{n:Nat}(h1:(l.take n).all f=true)(h2:(l.drop n).all f=true):l.all f=true:=by rw[<-List.take_append_drop n l,all_append,h1,h2];rfl
theorem qhh:([1,2].all λn:Int=>ords.all λo=>(upto stps 4).all λss=>bY n o ss)=true:=by
 show (((upto stps 4).all λss=>bY 1 (.str "up") ss)&&(((upto stps 4).all λss=>bY 1 (.str "down") ss)&&true)&&((((upto stps 4).all λss=>bY 2 (.str "up") ss)&&(((upto stps 4).all λss=>bY 2 (.str "down") ss)&&true))&&true))=true;rw[dt0,dt1,ykf dt2 dt3,ykf dt4 dt5];rfl
theorem yig{n:Int}(hn:n=1\/n=2){o:Â}(ho:o∈ords){ss:List Â}(hl:ss.length<=4)(hss:∀s∈ss,s∈stps):val qb7 [o,.list ss,.int n]=some (prsD n o ss):=by
 have:=Û.mp (Û.mp (Û.mp qhh n (by rcases hn with rfl|rfl<;>simp)) o ho) ss (qbu hl hss);unfold bY at this;split at this
 ·rename_i d e
  rw[e,ee this]
 ·cases this
theorem prs_in{n:Int}{o:Â}{ss:List Â}(hss:∀s∈ss,s∈stps):∀p∈prs n o ss,p.1∈dU n/\p.2∈stps:=λp hp=>by
 obtain ⟨a,ha,hm⟩:=List.mem_flatMap.mp hp;obtain ⟨s,hs',rfl⟩:=Ō.mp hm;exact ⟨yjh ha,hss s hs'⟩
theorem ordA_len{n:Int}(hn:n=1\/n=2){o:Â}:(ce n o).length<=2:=by
 unfold ce;split
 ·split<;>rcases hn with rfl|rfl<;>decide
 ·exact ķ _
theorem prs_len{n:Int}(hn:n=1\/n=2){o:Â}{ss:List Â}(hl:ss.length<=4):(prs n o ss).length<=8:=by
 have:∀as:List Â,(as.flatMap λa=>ss.map (a,·)).length=as.length*ss.length:=λas=>by
  induction as with
  |nil=>simp
  |cons a as ih=>rw[List.flatMap_cons,Ó,ih,Ð,Ė,Nat.succ_mul,Nat.add_comm]
 show ((ce n o).flatMap λa=>ss.map (a,·)).length<=8;rw[this];exact Ğ (Nat.mul_le_mul (ordA_len hn) hl) (by decide)
theorem ygs{n:Int}{h:Â}(hh:(n,h)∈hs)(hn:n=1\/n=2){i j:Nat}{o:Â}(ho:o∈ords){ss:List Â}(h4:ss.length<=4)(hss:∀s∈ss,s∈stps){c:Â}(hc:c∈aQ n){S:OS}{ps:List (Â×Dp.DV)}(hi:S[i]?=some (lit n h j))(hj:S[j]?=some (.dt ps))(ck:eZ n h ps)(hl:ps.length+8<most) :
  ∃ps',qaw [.r i,.d c,.d o,.d (.list ss)] S=some (.d (ļ h c (prs n o ss)),S.set j (.dt ps'))/\eZ n h ps'/\ps'.length<=ps.length+8/\Res n (ļ h c (prs n o ss)):=by
 have l8:=prs_len hn (o:=o) h4;obtain ⟨ps',g1,g2,g3,g4⟩:=yga hh hn (l:=prs n o ss) (prs_in hss) hc hi hj ck (by omega);refine ⟨ps',(ydv rfl).trans (ca rfl (b9 (eE (yb3 rfl hi rfl (ś rfl (ś (bU (dd:=[o,.list ss,.int n]) (ś rfl (ś rfl (ś (ybz rfl hi rfl rfl) rfl))) (yig hn ho h4 hss)) rfl)) rfl g1)))),g2,by omega,g4⟩
noncomputable def srt(l:List Â):List Â:=b7 ci (aZ l)
noncomputable def InL(n:Int)(l:List Â):Prop:=l.length<=4/\∀x∈l,x∈aQ n
noncomputable def chkL(n:Int)(l:List Â):Bool:=qfq l&&decide ((srt l).length<=4)&&(srt l).all λx=>(aQ n).any (deq x)
theorem srt_tab:([1,2].all λn:Int=>(upto (aQ n) 4).all (chkL n))=true:=by decide +kernel
theorem yjs{n:Int}(hn:n=1\/n=2){l:List Â}(h:InL n l):qfq l=true/\InL n (srt l):=by
 have:=Û.mp (Û.mp srt_tab n (by rcases hn with rfl|rfl<;>simp)) l (qbu h.1 h.2);unfold chkL at this;simp only[Å,decide_eq_true_eq]at this;exact ⟨this.1.1,this.1.2,λx hx=>qeu (Û.mp this.2 x hx)⟩
noncomputable def bd(n:Int)(h o:Â)(ss l:List Â):List Â:=srt ((l.map λc=>ļ h c (prs n o ss)).filter λc=>!(fE (.d c)))
theorem yii{n:Int}(hn:n=1\/n=2){h o:Â}{ss l:List Â}(hl:InL n l)(hr:∀c∈aQ n,Res n (ļ h c (prs n o ss))):InL n ((l.map λc=>ļ h c (prs n o ss)).filter λc=>!(fE (.d c))):=by
 refine ⟨Ğ (List.length_filter_le _ _) (by rw[Ð];exact hl.1),λx hx=>?_⟩;obtain ⟨h1,h2⟩:=mem_filter.mp hx;obtain ⟨c,hc,rfl⟩:=Ō.mp h1;rcases hr c (hl.2 c hc) with e|e
 ·rw[e]at h2;cases h2
 ·exact e
theorem qg4{ρ:Dp.DEnv}{S S':OS}{e:FE}{l:List Â}(h:e ρ S=some (.d (.list l),S'))(hl:l.length<=4):Į false [none] (Ų e) (Đ 0) (ò (isNF true (Ä 0))) (Ä 0) ρ S=some (.d (.list (l.filter λc=>!(fE (.d c)))),S'):=by
 obtain ⟨S2,g1,rfl⟩:=ycn (fg:=Đ 0) (ft:=ò (isNF true (Ä 0))) (f:=Ä 0) (ρ:=b4 [none] ρ) (l.map .d) (λx=>if fE x=true then none else some x) (λT=>T=S') (S:=S') rfl λx hx T hT=>by
  subst hT;obtain ⟨c,_,rfl⟩:=Ō.mp hx;refine ⟨_,rfl,xor true (fE (.d c)),T,rfl,?_⟩;cases e:fE (.d c) with
  |true=>exact .inl ⟨rfl,rfl,rfl⟩
  |false=>exact .inr ⟨rfl,.d c,T,rfl,rfl,rfl⟩
 have:((l.map Dp.DV.d).filterMap λx=>if fE x=true then none else some x)=(l.filter λc=>!(fE (.d c))).map .d:=by
  clear g1 hl h;induction l with
  |nil=>rfl
  |cons c l ih=>
   rw[þ,Ę,List.filter_cons,ih];cases e:fE (.d c)<;>rfl
 rw[this]at g1;exact qd1 (it_l h) g1 (Ğ (List.length_filter_le _ _) (Ğ hl (by decide)))
theorem lb_list{n:Int}{h:Â}(hh:(n,h)∈hs)(hn:n=1\/n=2){s ml i j:Nat}{fs:List (Str×Dp.DV)}{ms:List Dp.DV}{k:Int}{o:Â}(ho:o∈ords){ss:List Â}(h4:ss.length<=4)(hss:∀s∈ss,s∈stps){l:List Â}(hl:InL n l){S:OS}{ps:List (Â×Dp.DV)}
  (hS:S[s]?=some (.ins "Stands" fs)) (hf:fs.lookup ("memories" : Str)=some (.r ml)) (hm:S[ml]?=some (.lst ms)\/S[ml]?=some (.frz ms)) (hk:L2.atI ms k=some (.r i)) (hi:S[i]?=some (lit n h j)) (hj:S[j]?=some (.dt ps)) (ck:eZ n h ps) (hps:ps.length+40<most) :
  ∃ps',qar [.r s,.d (.int k),.d (.tuple l),.d (.tuple [o,.list ss])] S=some (.d (.tuple (bd n h o ss l)),S.set j (.dt ps'))/\eZ n h ps'/\ps'.length<=ps.length+32:=by
 have nj:∀{t:Nat}{u:OD},S[t]?=some u->(∀q,u≠.dt q)->∀v,(S.set j v)[t]?=some u:=λ{t u} e ne v=>by
  rw[í λz=>by rw[z,e]at hj;exact ne _ (ď hj)];exact e
 have jj:∀v,(S.set j v)[j]?=some v:=λv=>ą (É.mp hj).1;obtain ⟨S2,g1,ps',rfl,g3,g4⟩:=qix (fg:=Đ 0) (ft:=υ) (f:=cK "gone_over" [("Little",qaw)] (ß á (bp ["Stands"] "memories" (Ä 1)) (Ä 2)) (Ñ (Ä 0) (Ñ (ß á (Ä 3) (cF (.int 0))) (Ñ (ß á (Ä 3) (cF (.int 1))) Î)))) (ρ:=[none,some (.r s),some (.d (.int k)),some (.d (.tuple [o,.list ss]))]) (l.map .d)
  (λx=>match x with|.d c=>some (.d (ļ h c (prs n o ss)))|.r _=>none) (λm T=>∃ps',T=S.set j (.dt ps')/\eZ n h ps'/\ps'.length<=ps.length+8*m) (S:=S) ⟨ps,(qcb hj).symm,ck,Ò _⟩ λx hx m T hm4 ⟨ps1,e,c1,c2⟩=>by
   subst e;obtain ⟨c,hc,rfl⟩:=Ō.mp hx;rw[Ð]at hm4;have:=hl.1;obtain ⟨ps2,d1,d2,d3,d4⟩:=ygs hh hn ho h4 hss (hl.2 c hc) (nj hi (by intro _ z;cases z) _) (jj (.dt ps1)) c1 (by omega);rw[List.set_set]at d1;refine ⟨_,rfl,true,_,rfl,.inr ⟨rfl,.d (ļ h c (prs n o ss)),_,yb3 (op_eq (ybz rfl (nj hS (by intro _ z;cases z) _) rfl hf) rfl (ix_own (hm.imp (λz=>nj z (by intro _ z;cases z) _) λz=>.inl (nj z (by intro _ z;cases z) _)) hk)) (nj hi (by intro _ z;cases z) _) rfl rfl rfl d1,rfl,ps2,rfl,d2,by omega⟩⟩
 have e1:((l.map Dp.DV.d).filterMap λx=>match x with|.d c=>some (Dp.DV.d (ļ h c (prs n o ss)))|.r _=>none)=(l.map λc=>ļ h c (prs n o ss)).map .d:=by
  clear g1 g4 hl;induction l with
  |nil=>rfl
  |cons c l ih=>rw[þ,Ę,þ,þ,ih]
 rw[e1]at g1;have hr:∀c∈aQ n,Res n (ļ h c (prs n o ss)):=λc hc=>(ygs hh hn ho h4 hss hc hi hj ck (by omega)).elim λ_ q=>q.2.2.2;have l4:(l.map λc=>ļ h c (prs n o ss)).length<=4:=by rw[Ð];exact hl.1
 refine ⟨ps',(ydv rfl).trans (ca rfl (Ş (bI (qd1 (it_t rfl) g1 (Ğ l4 (by decide)))) (b9 (eE (b6 (ś (b6 (ś (qg4 rfl l4) rfl) (yka (yjs hn (yii hn hl hr)).1)) rfl) yhx))))),g3,?_⟩;rw[Ð]at g4;have:=hl.1;omega
noncomputable def cb(hi:Nat)(S:OS):Nat->List Dp.DV->List (Int×Â)->Prop
 |_,[],[]=>True
 |lo,.r i::rs,e::hl=>∃j,lo<=i/\i<j/\j<hi/\S[i]?=some (lit e.1 e.2 j)/\S[j]?=some (.dt [])/\cb hi S (j+1) rs hl
 |_,_,_=>False
theorem cb.mono{hi:Nat}{S S':OS}:∀{rs:List Dp.DV}{hl:List (Int×Â)}{lo lo':Nat},lo'<=lo->(∀t,lo<=t->t<hi->S'[t]?=S[t]?)->cb hi S lo rs hl->cb hi S' lo' rs hl
 |[],[],_,_,_,_,_=>trivial
 |.r i::rs,e::hl,lo,lo',l,h,⟨j,h1,h2,h3,h4,h5,h6⟩=>⟨j,by omega,h2,h3,by rw[h i h1 (by omega)];exact h4,by rw[h j (by omega) h3];exact h5,h6.mono (Ò _) λt a b=>h t (by omega) b⟩
 |.d _::_,_::_,_,_,_,_,h=>h.elim
 |[],_::_,_,_,_,_,h=>h.elim
 |.r _::_,[],_,_,_,_,h=>h.elim
 |.d _::_,[],_,_,_,_,h=>h.elim
theorem atI_mid{pre rs:List Dp.DV}{x:Dp.DV}:L2.atI (pre++x::rs) (pre.length:Int)=some x:=by
 unfold L2.atI;have:eL (pre++x::rs).length (pre.length:Int)=some pre.length:=by
  unfold eL;rw[Ó,Ė];simp;omega
 rw[this];simp
noncomputable def bt(o:Â)(ss:List Â):List (Int×Â)->List (List Â)->List Â
 |e::hl,l::ls=>.tuple (bd e.1 e.2 o ss l)::bt o ss hl ls
 |_,_=>[]
noncomputable def LsOk:List (Int×Â)->List (List Â)->Prop
 |[],[]=>True
 |e::hl,l::ls=>e∈hs/\(e.1=1\/e.1=2)/\InL e.1 l/\LsOk hl ls
 |_,_=>False
theorem pk_tab:([1,2].all λn:Int=>(upto (aQ n) 4).all λl=>ŧ (.tuple l)&&decide ((Ŝ l).depth<=4))=true:=by decide +kernel
theorem qit{n:Int}(hn:n=1\/n=2){l:List Â}(h:InL n l)(k:Int):bE (.tuple [.int k,.tuple l])=true:=by
 have:=Û.mp (Û.mp pk_tab n (by rcases hn with rfl|rfl<;>simp)) l (qbu h.1 h.2);rw[Å,decide_eq_true_eq]at this;obtain ⟨h1,h2⟩:=this;have hd:(Ŝ [.int k,.tuple l]).depth<=6:=by
  simp only[PyData.depth,ŏ]at h2 ⊢;omega
 have hk:ŧ (Ŝ [.int k,.tuple l])=true:=by
  show (true&&(ŧ (.tuple l)&&true))=true;rw[h1];rfl
 show (ŧ _&&decide _)=true;rw[hk];exact decide_eq_true hd
noncomputable abbrev qgn:FS:=Ï (Ĥ (ò (ß niB (Ä 5) (Ä 3))) ((Ï (qdq (Ä 3) (Ä 5) (cK "list_behind" [("Stands",qar)] (Ä 0) (Ñ (ß á (Ä 5) (cF (.int 0))) (Ñ (ß á (Ä 5) (cF (.int 1))) (Ñ (Ä 2) Î))))) ô)) ô) (Ï (ř (aA (Ä 4) (Ñ (ß á (Ä 3) (Ä 5)) Î))) ô)
theorem yb6{f:FE}{fa:FA}{ρ:Dp.DEnv}{S:OS}{i:Nat}{es:List Dp.DV}{d:Dp.DV}(h1:f ρ S=some (.r i,S))(h2:fa ρ S=some ([d],S))(h3:S[i]?=some (.lst es))(hl:es.length<most):aA f fa ρ S=some (.d .none,S.set i (.lst (es++[d]))):=by
 have h4:dq (.r i) S=some (i,es):=by
  show (match S[i]? with|some (.lst es)=>some (i,es)|_=>none)=_;rw[h3]
 unfold aA;rw[h1];show ((dq (.r i) S).bind _)=_;rw[h4];show ((fa ρ S).bind _)=_;rw[h2];show ((dq (.r i) S).bind _)=_;rw[h4];show (if es.length<most then _ else none)=_;rw[if_pos hl]
theorem yir{s ml L hi:Nat}{fs:List (Str×Dp.DV)}{ms:List Dp.DV}{o:Â}(ho:o∈ords){ss:List Â}(h4:ss.length<=4)(hss:∀s∈ss,s∈stps){st:Option Dp.DV}(hf:fs.lookup ("memories" : Str)=some (.r ml))(hm0:(fs.lookup ("list_behind" : Str)).isNone=true)(hhi:hi<=L) :
  ∀(rs:List Dp.DV) (hl:List (Int×Â)) (ls:List (List Â)) (pre:List Dp.DV) (lo:Nat) (S:OS) (fps:List (Â×Dp.DV)) (acc:List Â) (x5:Option Dp.DV),ms=pre++rs->pre.length+rs.length<=1000->S[s]?=some (.ins "Stands" fs)->(S[ml]?=some (.lst ms)\/S[ml]?=some (.frz ms))->cb hi S lo rs hl->LsOk hl ls->ml≠L+1->
  S[L]?=some (.dt fps)->(∀e∈fps,∃(k:Nat) (d:Â),e.1=.tuple [.int k,d]/\k<pre.length)->fps.length<=pre.length->S[L+1]?=some (.lst (acc.map .d))->acc.length<=pre.length->
  ∃x5' S',Dp.Ľ (Đ 5) qgn (aY pre.length (ls.map .tuple)) [some (.r s),st,some (.d (.tuple [o,.list ss])),some (.r L),some (.r (L+1)),x5] S=some (.nx [some (.r s),st,some (.d (.tuple [o,.list ss])),some (.r L),some (.r (L+1)),x5'],S')/\S'[L+1]?=some (.lst ((acc++bt o ss hl ls).map .d))
 |[],[],[],pre,lo,S,fps,acc,x5,hms,hlen,hS,hml,mo,lo',nml,hL,hkeys,hfl,hacc,hal=>⟨x5,S,rfl,by rw[show acc++bt o ss [] []=acc from Ĺ _];exact hacc⟩
 |.r i::rs,e::hl,l::ls,pre,lo,S,fps,acc,x5,hms,hlen,hS,hml,⟨j,m1,m2,m3,m4,m5,m6⟩,⟨p1,p2,p3,p4⟩,nml,hL,hkeys,hfl,hacc,hal=>by
  have hlen':pre.length+(rs.length+1)<=1000:=hlen;have hk:L2.atI ms (pre.length:Int)=some (.r i):=by rw[hms];exact atI_mid
  obtain ⟨ps',d1,_,_⟩:=lb_list (n:=e.1) (h:=e.2) p1 p2 ho h4 hss p3 hS hf hml hk m4 m5 (λq hq=>nomatch hq) (by decide);have hkb:=qit p2 p3 (pre.length:Int);have nv:aK fps (.tuple [.int pre.length,.tuple l])=none:=by
   unfold aK;rw[Option.map_eq_none_iff,List.find?_eq_none];intro q hq;obtain ⟨k',d,e1,lt⟩:=hkeys q hq;rw[e1];have:((k':Int) == (pre.length:Int))=false:=by
    rw[beq_eq_false_iff_ne];omega
   simp only[ì,œ,this,Bool.false_and];exact ú
  obtain ⟨q1,q2⟩:=qg7 (v:=.d (.tuple (bd e.1 e.2 o ss l))) hkb nv;have jL:j≠L:=by omega
  have jL1:j≠L+1:=by omega
  -- behind list_behind
  have s1:∀t,t≠j->(S.set j (.dt ps'))[t]?=S[t]?:=λt h=>í (ń h);have hL1:(S.set j (.dt ps'))[L]?=some (.dt fps):=by rw[s1 L (ń jL)];exact hL
  generalize hS1:S.set j (.dt ps')=S1 at d1 s1 hL1;have s2:∀t,t≠L->(S1.set L (.dt (ay fps (.tuple [.int pre.length,.tuple l]) (.d (.tuple (bd e.1 e.2 o ss l))))))[t]?=S1[t]?:=λt h=>í (ń h);have hL2:(S1.set L (.dt (ay fps (.tuple [.int pre.length,.tuple l]) (.d (.tuple (bd e.1 e.2 o ss l))))))[L]?=some (.dt (fps++[(.tuple [.int pre.length,.tuple l],.d (.tuple (bd e.1 e.2 o ss l)))])):=by
   rw[ą (É.mp hL1).1,q1]
  generalize hS2:S1.set L (.dt (ay fps (.tuple [.int pre.length,.tuple l]) (.d (.tuple (bd e.1 e.2 o ss l)))))=S2 at s2 hL2;have hA2:S2[L+1]?=some (.lst (acc.map .d)):=by rw[s2 _ (by omega),s1 _ (ń jL1)];exact hacc
  have s3:∀t,t≠L+1->(S2.set (L+1) (.lst (acc.map .d++[Dp.DV.d (.tuple (bd e.1 e.2 o ss l))])))[t]?=S2[t]?:=λt h=>í (ń h);have hA3:(S2.set (L+1) (.lst (acc.map .d++[Dp.DV.d (.tuple (bd e.1 e.2 o ss l))])))[L+1]?=some (.lst ((acc++[Ŝ (bd e.1 e.2 o ss l)]).map .d)):=by
   rw[ą (É.mp hA2).1,ň];rfl
  have body:qgn [some (.r s),st,some (.d (.tuple [o,.list ss])),some (.r L),some (.r (L+1)),some (.d (.tuple [.int pre.length,.tuple l]))] S=some (.nx [some (.r s),st,some (.d (.tuple [o,.list ss])),some (.r L),some (.r (L+1)),some (.d (.tuple [.int pre.length,.tuple l]))],S2.set (L+1) (.lst (acc.map .d++[Dp.DV.d (.tuple (bd e.1 e.2 o ss l))]))):=by
   refine Ş (yh5 (yf4 (op_eq rfl rfl ((ni_dt hL hkb).trans (by rw[nv];rfl)))) (Ş (set_dt (yb3 rfl hS hm0 rfl rfl d1) rfl rfl hL1 hkb (ž hfl (by show pre.length<100000;omega))) rfl)) ?_;rw[hS2];exact Ş (qcy (yb6 rfl (ś (op_eq rfl rfl (ykg hL2 hkb q2)) rfl) hA2 (by rw[Ð];exact ž hal (by show pre.length<100000;omega)))) rfl
  generalize hS3:S2.set (L+1) (.lst (acc.map .d++[Dp.DV.d (.tuple (bd e.1 e.2 o ss l))]))=S3 at body s3 hA3;have keep:∀t u,S[t]?=some u->t≠L->t≠L+1->t≠j->S3[t]?=some u:=λt u h a b c=>by rw[s3 t b,s2 t a,s1 t c];exact h
  have nS:s≠L/\s≠L+1/\s≠j:=⟨λz=>(by rw[z,hL]at hS;cases hS),λz=>(by rw[z,hacc]at hS;cases hS),λz=>(by rw[z,m5]at hS;cases hS)⟩;have nM:ml≠L/\ml≠j:=⟨λz=>(by rw[z,hL]at hml;exact hml.elim (λh=>by cases h) λh=>by cases h),λz=>(by rw[z,m5]at hml;exact hml.elim (λh=>by cases h) λh=>by cases h)⟩;obtain ⟨x5',S',g1,g2⟩:=yir ho h4 hss (st:=st) hf hm0 hhi rs hl ls (pre++[.r i]) (j+1) S3 (fps++[(.tuple [.int pre.length,.tuple l],.d (.tuple (bd e.1 e.2 o ss l)))]) (acc++[Ŝ (bd e.1 e.2 o ss l)]) (some (.d (.tuple [.int pre.length,.tuple l])))
   (by rw[hms,ō];rfl) (by rw[Ó];simp;omega) (keep s _ hS nS.1 nS.2.1 nS.2.2) (hml.imp (λh=>keep ml _ h nM.1 nml nM.2) λh=>keep ml _ h nM.1 nml nM.2)
   (m6.mono (Ò _) λt a b=>by rw[s3 t (by omega),s2 t (by omega),s1 t (by omega)]) p4 nml (by rw[s3 L (by omega)];exact hL2) (λq hq=>by
    rw[Ó];rcases ŀ.mp hq with hq|hq
    ·obtain ⟨k',d,e1,lt⟩:=hkeys q hq;exact ⟨k',d,e1,by simp;omega⟩
    ·rw[ê.mp hq];exact ⟨pre.length,_,rfl,by simp⟩) (by rw[Ó,Ó];simp;omega) hA3 (by rw[Ó,Ó];simp;omega)
  refine ⟨x5',S',?_,by rw[ō]at g2;exact g2⟩;show ((qgn [some (.r s),st,some (.d (.tuple [o,.list ss])),some (.r L),some (.r (L+1)),some (.d (.tuple [.int pre.length,.tuple l]))] S).bind λq=>bT q (Dp.Ľ (Đ 5) qgn (aY (pre.length+1) (ls.map .tuple))))=_;rw[body];rw[Ó]at g1;exact g1
 |[],[],_::_,_,_,_,_,_,_,_,_,_,_,_,h,_,_,_,_,_,_=>h.elim
 |[],_::_,_,_,_,_,_,_,_,_,_,_,_,h,_,_,_,_,_,_,_=>h.elim
 |.r _::_,[],_,_,_,_,_,_,_,_,_,_,_,h,_,_,_,_,_,_,_=>h.elim
 |.d _::_,[],_,_,_,_,_,_,_,_,_,_,_,h,_,_,_,_,_,_,_=>h.elim
 |.d _::_,_::_,_,_,_,_,_,_,_,_,_,_,_,h,_,_,_,_,_,_,_=>h.elim
 |.r _::_,_::_,[],_,_,_,_,_,_,_,_,_,_,_,h,_,_,_,_,_,_=>h.elim
theorem sdf_new{f g h:FE}{ρ:Dp.DEnv}{S S':OS}{j:Nat}{ps:List (Â×Dp.DV)}{k:Â}{v:Dp.DV}(h1:f ρ S=some (.r j,S))(hj:S[j]?=some (.dt ps))(h2:g ρ S=some (.d k,S))(h3:h ρ S=some (v,S'))(hj':S'[j]?=some (.dt ps))(hk:bE k=true)(hl:ps.length<most)(hv:aK ps k=none):eu f g h ρ S=some (v,S'.set j (.dt (ay ps k v))):=by
 unfold eu;rw[h1];show ((dB (.r j) S).bind _)=_;rw[qjt hj];show ((g ρ S).bind _)=_;rw[h2];show ((h ρ S).bind _)=_;rw[h3];show ((dB (.r j) S').bind _)=_;rw[qjt hj'];show (if dC true k=true/\ps.length<most then _ else none)=_;rw[if_pos ⟨hk,hl⟩,hv];rfl
theorem qgf{S:OS}{i:Nat}{dd:List Â}(h:S[i]?=some (.lst (dd.map .d))):ax [.r i] S=some (.d (.tuple dd),S):=by
 have h1:cA (.r i) S=some (false,dd):=by
  unfold cA;have:sq (.r i) S=some (false,dd.map .d):=by
   show (match S[i]? with|some (.lst es)=>some (false,es)|some (.frz es)=>some (false,es)|some (.scr es)=>some (false,es)|_=>none)=_;rw[h]
  rw[this];show ((datas (dd.map Dp.DV.d)).map λds=>(false,ds))=_;rw[eF];rfl
 show ((cA (.r i) S).bind _)=_;rw[h1];rfl
theorem yfh{fa:FA}{ρ:Dp.DEnv}{S S':OS}{dd:List Â}(h:fa ρ S=some (dd.map .d,S'))(hl:dd.length<=most):ģ fa ρ S=some (.d (.tuple dd),S'):=by
 unfold ģ;rw[h];show ((d8 (dd.map Dp.DV.d) S').bind _)=_;rw[fzA_d];show (if dd.length<=most then _ else none)=_;rw[if_pos hl]
theorem ek_tab:(ords.all λo=>(upto stps 4).all λss=>bE (.tuple [o,.tuple ss]))=true:=by decide +kernel
theorem el_key{o:Â}(ho:o∈ords){ss:List Â}(h4:ss.length<=4)(hss:∀s∈ss,s∈stps):bE (.tuple [o,.tuple ss])=true:=Û.mp (Û.mp ek_tab o ho) ss (qbu h4 hss)
theorem cb.len{hi:Nat}{S:OS}:∀{rs:List Dp.DV}{hl:List (Int×Â)}{lo:Nat},cb hi S lo rs hl->rs.length=hl.length
 |[],[],_,_=>rfl
 |.r i::rs,e::hl,lo,⟨j,_,_,_,_,_,h⟩=>congrArg (· + 1) h.len
 |.d _::_,_::_,_,h=>h.elim
 |[],_::_,_,h=>h.elim
 |.r _::_,[],_,h=>h.elim
 |.d _::_,[],_,h=>h.elim
structure InitOk(S:OS)(s ml fd lo:Nat)(ms:List Dp.DV)(hl:List (Int×Â)):Prop where
 self:S[s]?=some (.ins "Stands" [("memories",.r ml),("found",.r fd)])
 mem:S[ml]?=some (.lst ms)\/S[ml]?=some (.frz ms)
 fnd:S[fd]?=some (.dt [])
 all:cb fd S lo ms hl
theorem yi5{S:OS}{s ml fd lo:Nat}{ms:List Dp.DV}{hl:List (Int×Â)}(I:InitOk S s ml fd lo ms hl)(hlen:hl.length<=1000){o:Â}(ho:o∈ords){ss:List Â}(h4:ss.length<=4)(hss:∀s∈ss,s∈stps){ls:List (List Â)}(hls:LsOk hl ls){kn hb:Â}(hh:val ya6 [kn,.list ss]=some hb) :
  ∃S',ybp [.r s,.d (.tuple [kn,.tuple (ls.map .tuple)]),.d (.tuple [o,.list ss])] S=some (.d (.tuple [hb,.tuple (bt o ss hl ls)]),S'):=by
 have hkey:=el_key ho h4 hss;have lt:∀{t:Nat}{u:OD},S[t]?=some u->t<S.length:=λh=>(É.mp h).1;have lfd:=lt I.fnd;have hfd1:(S++[OD.dt []])[fd]?=some (.dt []):=ybd I.fnd
 -- the dict of the element
 have e1:eu (bp ["Little","Stands"] "found" (Ä 0)) (ģ (Ñ (ß á (Ä 2) (cF (.int 0))) (Ñ (č ax (Ñ (ß á (Ä 2) (cF (.int 1))) Î)) Î))) (de true) [some (.r s),some (.d (.tuple [kn,.tuple (ls.map .tuple)])),some (.d (.tuple [o,.list ss])),none,none,none] S=some (.r S.length,(S++[OD.dt []]).set fd (.dt (ay [] (.tuple [o,.tuple ss]) (.r S.length)))):=
  sdf_new (ybz rfl I.self rfl rfl) I.fnd (by
   show ((Ñ _ _ _ S).bind _)=_;rw[ś (v:=.d o) rfl (ś (b6 (ś rfl rfl) yhx) rfl)];rfl) rfl hfd1 hkey (by decide) rfl
 generalize hS1:(S++[OD.dt []]).set fd (.dt (ay [] (.tuple [o,.tuple ss]) (.r S.length)))=S1 at e1;have l1:S1.length=S.length+1:=by rw[<-hS1,Ł,Ó];rfl
 have k1:∀t,t≠fd->t<S.length->S1[t]?=S[t]?:=λt a b=>by
  rw[<-hS1,í (ń a),ë b]
 have kL:S1[S.length]?=some (.dt []):=by
  rw[<-hS1,í (by omega),ö (Ò _),sub_self];rfl
 have k2:∀t,t≠fd->t<S.length->(S1++[OD.lst []])[t]?=S[t]?:=λt a b=>by
  rw[ë (by omega),k1 t a b]
 have sfd:s≠fd:=λz=>by have h:=I.self;rw[z,I.fnd]at h;cases h
 have mfd:ml≠fd:=λz=>by
  have h:=I.mem;rw[z,I.fnd]at h;exact h.elim (λh=>by cases h) λh=>by cases h
 have lml:ml<S.length:=I.mem.elim lt lt;obtain ⟨x5,S',g1,g2⟩:=yir (s:=s) (ml:=ml) (L:=S.length) (hi:=fd) (fs:=[("memories",.r ml),("found",.r fd)]) (ms:=ms) ho h4 hss (st:=some (.d (.tuple [kn,.tuple (ls.map .tuple)]))) rfl rfl (γ lfd) ms hl ls [] lo (S1++[OD.lst []]) [] [] none rfl (by rw[I.all.len];simpa using hlen)
  (by rw[k2 s sfd (lt I.self)];exact I.self) (by rw[k2 ml mfd lml];exact I.mem) (I.all.mono (Ò _) λt _ b=>k2 t (by omega) (by omega)) hls (by omega) (by rw[ë (by omega)];exact kL) (λe he=>nomatch he) (Ò _) (by rw[<-l1,ö (Ò _),sub_self];rfl) (Ò _)
 refine ⟨S',(ydv rfl).trans (ca rfl (Ş (bI e1) (Ş (bI (v:=.r (S.length+1)) (S':=S1++[OD.lst []]) ?_) (Ş (dj (es:=aY 0 (ls.map .tuple)) (S':=S1++[OD.lst []]) rfl g1) (b9 (eE ?_))))))⟩
 ·show some (Dp.DV.r S1.length,_)=_;rw[l1]
 ·exact yfh (dd:=[hb,.tuple (bt o ss hl ls)]) (ś (bU (dd:=[kn,.list ss]) rfl hh) (ś (b6 (ś rfl rfl) (qgf g2)) rfl)) (by show 2<=100000;decide)
noncomputable abbrev hD(hl:List (Int×Â)):List Â:=hl.map (·.2)
theorem zip_eq{fa:FA}{ρ:Dp.DEnv}{S S':OS}{a b:Â}{as bs:List Â}(h:fa ρ S=some ([.d a,.d b],S'))(ha:Dp.b8 a=some as)(hb:Dp.b8 b=some bs):cE fa ρ S=some (bq as bs,S'):=by
 unfold cE;rw[h];show ((Dp.b8 a).bind λas=>(Dp.b8 b).map λbs=>(bq as bs,S'))=_;rw[ha,hb];rfl
noncomputable def cJ(kn:Â):List Â->Â
 |[]=>kn
 |s::ss=>cJ (itm1 s) ss
theorem ykl{a b c:Option Dp.DV}{S:OS}:∀(ss:List Â),(∀s∈ss,s∈stps)->∀kn x4 r,∃x4',Dp.Ľ (Đ 4) (Ï (Č (ß á (Ä 4) (cF (.int 1))) (Đ 3)) ô) (ss.map .d) (a::b::c::some (.d kn)::x4::r) S=some (.nx (a::b::c::some (.d (cJ kn ss))::x4' :: r),S)
 |[],_,kn,x4,r=>⟨x4,rfl⟩
 |s::ss,h,kn,x4,r=>by
  obtain ⟨w,i,rfl⟩:=qiz (h s Ì);obtain ⟨x4',g⟩:=ykl (a:=a) (b:=b) (c:=c) (S:=S) ss (λs hs=>h s (Ê _ hs)) (.int i) (some (.d (.tuple [.str w,.int i]))) r;exact ⟨x4',g⟩
noncomputable abbrev ygp:FS:=Ï (Č (Į false [none,some 2,some 6] (Ų (Ä 7)) (Đ 0) υ (č ybc (Ñ (Ä 2) (Ñ (Ä 0) (Ñ (Ä 1) Î))))) (Đ 8)) (Ï (ř (aA (Ä 5) (Ñ (č ax (Ñ (č qa1 (Ñ (Į false [none] (Ų (Ä 8)) (Đ 0) (ò (isNF true (Ä 0))) (Ä 0)) Î)) Î)) Î))) ô)
theorem qi7{ks st:Option Dp.DV}{o:Â}(ho:o∈ords){ss:List Â}(hss:∀s∈ss,s∈stps){k4 k5:Option Dp.DV}:∀(hl:List (Int×Â)) (ls:List (List Â)) (acc:List Â) (x6 x7 x8:Option Dp.DV),LsOk hl ls->acc.length+hl.length<=1000->
  ∃y6 y7 y8,Dp.Ľ (bN [6,7]) ygp (bq (hD hl) (ls.map .tuple)) [ks,st,some (.d (.tuple [o,.list ss])),k4,k5,some (.r 0),x6,x7,x8] [.lst (acc.map .d)]=some (.nx [ks,st,some (.d (.tuple [o,.list ss])),k4,k5,some (.r 0),y6,y7,y8],[.lst ((acc++bt o ss hl ls).map .d)])
 |[],[],acc,x6,x7,x8,_,_=>⟨x6,x7,x8,by rw[show acc++bt o ss [] []=acc from Ĺ _];rfl⟩
 |e::hl,l::ls,acc,x6,x7,x8,⟨p1,p2,p3,p4⟩,hlen=>by
  have hlen':acc.length+(hl.length+1)<=1000:=hlen;have hr:∀c∈aQ e.1,Res e.1 (ļ e.2 c (prs e.1 o ss)):=λc hc=>(yf5 p1 p2 hss ho hc).2;obtain ⟨S2,g1,rfl⟩:=ycn (fg:=Đ 0) (ft:=υ) (f:=č ybc (Ñ (Ä 2) (Ñ (Ä 0) (Ñ (Ä 1) Î)))) (ρ:=[none,some (.d (.tuple [o,.list ss])),some (.d e.2)]) (l.map .d) (λx=>match x with|.d c=>some (.d (ļ e.2 c (prs e.1 o ss)))|.r _=>none) (λT=>T=[.lst (acc.map .d)]) (S:=[.lst (acc.map .d)]) rfl λx hx T hT=>by
   subst hT;obtain ⟨c,hc,rfl⟩:=Ō.mp hx;exact ⟨_,rfl,true,_,rfl,.inr ⟨rfl,.d (ļ e.2 c (prs e.1 o ss)),_,bU (dd:=[e.2,c,.tuple [o,.list ss]]) rfl (yf5 p1 p2 hss ho (p3.2 c hc)).1,rfl,rfl⟩⟩
  have e1:((l.map Dp.DV.d).filterMap λx=>match x with|.d c=>some (Dp.DV.d (ļ e.2 c (prs e.1 o ss)))|.r _=>none)=(l.map λc=>ļ e.2 c (prs e.1 o ss)).map .d:=by
   clear g1 p3;induction l with
   |nil=>rfl
   |cons c l ih=>rw[þ,Ę,þ,þ,ih]
  rw[e1]at g1;have l4:(l.map λc=>ļ e.2 c (prs e.1 o ss)).length<=4:=by rw[Ð];exact p3.1
  have body:ygp [ks,st,some (.d (.tuple [o,.list ss])),k4,k5,some (.r 0),some (.d e.2),some (.d (.tuple l)),x8] [.lst (acc.map .d)]=some (.nx [ks,st,some (.d (.tuple [o,.list ss])),k4,k5,some (.r 0),some (.d e.2),some (.d (.tuple l)),some (.d (.list (l.map λc=>ļ e.2 c (prs e.1 o ss))))],[.lst (acc.map .d++[.d (.tuple (bd e.1 e.2 o ss l))])]):=
   Ş (bI (qd1 (it_t rfl) g1 (Ğ l4 (by decide)))) (Ş (qcy (yb6 rfl (ś (b6 (ś (b6 (ś (qg4 rfl l4) rfl) (yka (yjs p2 (yii p2 p3 hr)).1)) rfl) yhx) rfl) rfl (by rw[Ð];exact ž (by omega:acc.length<=1000) (by decide)))) rfl)
  obtain ⟨y6,y7,y8,g2⟩:=qi7 (ks:=ks) (st:=st) ho hss (k4:=k4) (k5:=k5) hl ls (acc++[.tuple (bd e.1 e.2 o ss l)]) (some (.d e.2)) (some (.d (.tuple l))) (some (.d (.list (l.map λc=>ļ e.2 c (prs e.1 o ss))))) p4 (by rw[Ó];simp;omega);refine ⟨y6,y7,y8,?_⟩;show ((ygp [ks,st,some (.d (.tuple [o,.list ss])),k4,k5,some (.r 0),some (.d e.2),some (.d (.tuple l)),x8] [.lst (acc.map .d)]).bind λq=>bT q (Dp.Ľ (bN [6,7]) ygp (bq (hD hl) (ls.map .tuple))))=_;rw[body,show acc++bt o ss (e::hl) (l::ls)=(acc++[.tuple (bd e.1 e.2 o ss l)])++bt o ss hl ls by rw[ō];rfl];rw[ň]at g2;exact g2
 |[],_::_,_,_,_,_,h,_=>h.elim
 |_::_,[],_,_,_,_,h,_=>h.elim
theorem lled_ok{ks:Â}{hl:List (Int×Â)}(hall:val yap [ks]=some (.list (hD hl)))(hlen:hl.length<=1000){o:Â}(ho:o∈ords){ss:List Â}(hss:∀s∈ss,s∈stps){ls:List (List Â)}(hls:LsOk hl ls){kn:Â} :
  val qdl [ks,.tuple [kn,.tuple (ls.map .tuple)],.tuple [o,.list ss]]=some (.tuple [cJ kn ss,.tuple (bt o ss hl ls)]):=by
 obtain ⟨x4,g1⟩:=ykl (a:=some (.d ks)) (b:=some (.d (.tuple [kn,.tuple (ls.map .tuple)]))) (c:=some (.d (.tuple [o,.list ss]))) (S:=[]) ss hss kn none [none,none,none,none];obtain ⟨y6,y7,y8,g2⟩:=qi7 (ks:=some (.d ks)) (st:=some (.d (.tuple [kn,.tuple (ls.map .tuple)]))) ho hss (k4:=some (.d (cJ kn ss))) (k5:=x4) hl ls [] none none none hls (by simpa using hlen);have hz:cE (Ñ (č yap (Ñ (Ä 0) Î)) (Ñ (ß á (Ä 1) (cF (.int 1))) Î)) [some (.d ks),some (.d (.tuple [kn,.tuple (ls.map .tuple)])),some (.d (.tuple [o,.list ss])),some (.d (cJ kn ss)),x4,some (.r 0),none,none,none] [.lst []]=some (bq (hD hl) (ls.map .tuple),[.lst []]):=by
  exact zip_eq (a:=.list (hD hl)) (b:=.tuple (ls.map .tuple)) (ś (bU (dd:=[ks]) rfl hall) (ś rfl rfl)) rfl rfl
 refine dM (r:=.d (.tuple [cJ kn ss,.tuple (bt o ss hl ls)])) (S1:=[.lst ((bt o ss hl ls).map .d)]) (S2:=[.lst ((bt o ss hl ls).map .d)]) (ca rfl (Ş (bI (v:=.d kn) rfl) (Ş (dj (it_l rfl) g1) (Ş (bI (v:=.r 0) (S':=[.lst []]) rfl) (Ş (dj hz g2) (b9 (eE (yfh (dd:=[cJ kn ss,.tuple (bt o ss hl ls)]) (ś rfl (ś (b6 (ś rfl rfl) (qgf rfl)) rfl)) (by show 2<=100000;decide))))))))) rfl
theorem led_ok{ks:List Â}{hl:List (Int×Â)}{S:OS}{ml fd lo:Nat}{ms:List Dp.DV}(hi:yak [.r 0,.d (.list ks)] [.ins "Stands" []]=some (.d .none,S))(I:InitOk S 0 ml fd lo ms hl)(hlen:hl.length<=1000){o:Â}(ho:o∈ords){ss:List Â}(h4:ss.length<=4)(hss:∀s∈ss,s∈stps){ls:List (List Â)}(hls:LsOk hl ls){kn hb:Â}(hh:val ya6 [kn,.list ss]=some hb) :
  val ybv [.list ks,.tuple [kn,.tuple (ls.map .tuple)],.tuple [o,.list ss]]=some (.tuple [hb,.tuple (bt o ss hl ls)]):=by
 obtain ⟨S',g⟩:=yi5 I hlen ho h4 hss hls hh;have hm:yf3 "Stands" yak (Ñ (Ä 0) Î) [some (.d (.list ks)),some (.d (.tuple [kn,.tuple (ls.map .tuple)])),some (.d (.tuple [o,.list ss]))] []=some (.r 0,S):=by
  show ((yak [.r 0,.d (.list ks)] [.ins "Stands" []]).bind _)=_;rw[hi];rfl
 exact dM (S1:=S') (S2:=S') (ca rfl (b9 (eE (yb3 hm I.self rfl rfl rfl g)))) rfl
noncomputable def deqV:Dp.DV->Dp.DV->Bool
 |.d x,.d y=>deq x y
 |.r i,.r j=>decide (i=j)
 |_,_=>false
noncomputable def fG:List (Str×Dp.DV)->List (Str×Dp.DV)->Bool
 |[],[]=>true
 |a::l,b::m=>decide (a.1=b.1)&&deqV a.2 b.2&&fG l m
 |_,_=>false
noncomputable def deqI:OD->OD->Bool
 |.ins c l,.ins d m=>decide (c=d)&&fG l m
 |_,_=>false
noncomputable def nilO:OD->Bool
 |.dt []=>true
 |_=>false
theorem deqV_eq:∀{x y:Dp.DV},deqV x y=true->x=y
 |.d _,.d _,h=>by rw[ee h]
 |.r _,.r _,h=>by rw[of_decide_eq_true h]
theorem qjn:∀{l m:List (Str×Dp.DV)},fG l m=true->l=m
 |[],[],_=>rfl
 |a::l,b::m,h=>by
  have h:(decide (a.1=b.1)&&deqV a.2 b.2&&fG l m)=true:=h;simp only[Å,decide_eq_true_eq]at h;rw[qjn h.2,show a=b from Prod.ext h.1.1 (deqV_eq h.1.2)]
theorem qij:∀{x y:OD},deqI x y=true->x=y
 |.ins c l,.ins d m,h=>by
  have h:(decide (c=d)&&fG l m)=true:=h;simp only[Å,decide_eq_true_eq]at h;rw[h.1,qjn h.2]
theorem qjw:∀{x:OD},nilO x=true->x=.dt []
 |.dt [],_=>rfl
noncomputable def chkM(n:Int)(h:Â):Bool:=match Dp.Ŧ 1 1 qbq [.d (.list [h])] [] with
 |some (.r i,[o,o2])=>decide (i=0)&&deqI o (lit n h 1)&&nilO o2
 |_=>false
theorem lm_tab:(hs.all λe=>chkM e.1 e.2)=true:=by decide +kernel
theorem lm_ok{n:Int}{h:Â}(hh:(n,h)∈hs)(S:OS):yag [.d (.list [h])] S=some (.r S.length,S++[lit n h (S.length+1),.dt []]):=by
 have k:=Û.mp lm_tab _ hh;unfold chkM at k;split at k
 ·rename_i i o o2 e
  simp only[Å,decide_eq_true_eq]at k;obtain ⟨⟨rfl,k5⟩,k6⟩:=k;rw[qij k5,qjw k6]at e;exact FL_new (dd:=[.list [h]]) e rfl rfl
 ·cases k
theorem cb.app{h1 h2:Nat}{S:OS}:∀{rs:List Dp.DV}{hl:List (Int×Â)}{lo lo2:Nat}{rs2:List Dp.DV}{hl2:List (Int×Â)},cb h1 S lo rs hl->lo<=lo2->h1<=lo2->h1<=h2->cb h2 S lo2 rs2 hl2->cb h2 S lo (rs++rs2) (hl++hl2)
 |[],[],lo,lo2,_,_,_,l,_,_,h=>h.mono l λ_ _ _=>rfl
 |.r i::rs,e::hl,lo,lo2,_,_,⟨j,q1,q2,q3,q4,q5,q6⟩,l,l2,l3,h=>⟨j,q1,q2,by omega,q4,q5,q6.app (by omega) l2 l3 h⟩
 |.d _::_,_::_,_,_,_,_,h,_,_,_,_=>h.elim
 |[],_::_,_,_,_,_,h,_,_,_,_=>h.elim
 |.r _::_,[],_,_,_,_,h,_,_,_,_=>h.elim
 |.d _::_,[],_,_,_,_,h,_,_,_,_=>h.elim
theorem cb.up{h1 h2:Nat}{S:OS}:∀{rs:List Dp.DV}{hl:List (Int×Â)}{lo:Nat},h1<=h2->cb h1 S lo rs hl->cb h2 S lo rs hl
 |[],[],_,_,_=>trivial
 |.r i::rs,e::hl,lo,l,⟨j,q1,q2,q3,q4,q5,q6⟩=>⟨j,q1,q2,by omega,q4,q5,q6.up l⟩
 |.d _::_,_::_,_,_,h=>h.elim
 |[],_::_,_,_,h=>h.elim
 |.r _::_,[],_,_,h=>h.elim
 |.d _::_,[],_,_,h=>h.elim
theorem qhc{ρ:Dp.DEnv}:∀(he:List (Int×Â)) (S:OS),(∀e∈he,e∈hs)->∃refs S',bf (Đ 0) υ (č yag (Ñ (ĵ (Ñ (Ä 0) Î)) Î)) (none::ρ) ((hD he).map .d) S=some (refs,S')/\S.length<=S'.length/\(∀t,t<S.length->S'[t]?=S[t]?)/\cb S'.length S' S.length refs he
 |[],S,_=>⟨[],S,rfl,Ò _,λ_ _=>rfl,trivial⟩
 |e::he,S,h=>by
  obtain ⟨refs,S',g1,g2,g3,g4⟩:=qhc (ρ:=ρ) he (S++[lit e.1 e.2 (S.length+1),.dt []]) λe he=>h e (Ê _ he);have l:(S++[lit e.1 e.2 (S.length+1),.dt []]).length=S.length+2:=by rw[Ó];rfl
  rw[l]at g2 g3 g4;refine ⟨.r S.length::refs,S',?_,by omega,λt ht=>?_,S.length+1,Ò _,by omega,by omega,?_,?_,g4⟩
  ·have h1:č yag (Ñ (ĵ (Ñ (Ä 0) Î)) Î) (some (.d e.2)::ρ) S=some (.r S.length,S++[lit e.1 e.2 (S.length+1),.dt []]):=b6 rfl (lm_ok (h e Ì) S);show ((č yag (Ñ (ĵ (Ñ (Ä 0) Î)) Î) (some (.d e.2)::ρ) S).bind _)=_;rw[h1];show ((bf (Đ 0) υ (č yag (Ñ (ĵ (Ñ (Ä 0) Î)) Î)) (none::ρ) ((hD he).map .d) (S++[lit e.1 e.2 (S.length+1),.dt []])).bind _)=_;rw[g1];rfl
  ·rw[g3 t (by omega),ë ht]
  ·rw[g3 _ (by omega),ö (Ò _),sub_self];rfl
  ·rw[g3 _ (by omega),ö (by omega),show S.length+1-S.length=1 by omega];rfl
noncomputable def hlOf(ks:List Str):List (Int×Â):=ks.flatMap λk=>match kt.lookup k with
 |some e=>e.2.map λh=>(e.1,h)
 |none=>[]
noncomputable def cQ:List Str:=kt.map (·.1)
noncomputable def chkK(k:Str):Bool:=!(hlOf [k]).isEmpty&&decide ((hlOf [k]).length<=10)&&(hlOf [k]).all (λe=>hs.any λe2=>decide (e.1=e2.1)&&deq e.2 e2.2)&&(match val qbh [.str k] with|some d=>deq d (.list (hD (hlOf [k])))|none=>false)&&(match val yam [.str k] with|some d=>deq d (.list (hD (hlOf [k])))|none=>false)
theorem kd_tab:(cQ.all chkK)=true:=by decide +kernel
theorem qj7{k:Str}(h:k∈cQ):hlOf [k]≠[]/\(hlOf [k]).length<=10/\(∀e∈hlOf [k],e∈hs)/\val qbh [.str k]=some (.list (hD (hlOf [k])))/\val yam [.str k]=some (.list (hD (hlOf [k]))):=by
 have q:=Û.mp kd_tab k h;unfold chkK at q;simp only[Å,Ŕ,decide_eq_true_eq]at q;obtain ⟨⟨⟨⟨q1,q2⟩,q3⟩,q4⟩,q5⟩:=q;refine ⟨λz=>(by rw[z]at q1;cases q1),q2,λe he=>?_,?_,?_⟩
 ·obtain ⟨e2,h2,q⟩:=any_eq_true.mp (Û.mp q3 e he);rw[Å,decide_eq_true_eq]at q;have:e=e2:=Prod.ext q.1 (ee q.2);rw[this];exact h2
 ·split at q4
  ·rename_i d e;rw[e,ee q4]
  ·cases q4
 ·split at q5
  ·rename_i d e;rw[e,ee q5]
  ·cases q5
theorem comp_r{ix:List (Option Nat)}{fi:FA}{fg:FG}{ft:FT}{f:FE}{ρ:Dp.DEnv}{S S1 S2:OS}{es rs:List Dp.DV}{i:Nat}{c:Str}{fs:List (Str×Dp.DV)}(h1:fi ρ S=some (es,S1))(h2:bf fg ft f (b4 ix ρ) es S1=some (.r i::rs,S2))(h3:S2[i]?=some (.ins c fs))(hl:rs.length<most):Dp.Į false ix fi fg ft f ρ S=some (.r S2.length,S2++[.lst (.r i::rs)]):=by
 unfold Dp.Į;rw[h1];show ((bf fg ft f (b4 ix ρ) es S1).bind _)=_;rw[h2];show mkL false (.r i::rs) S2=_;have hz:d8 (.r i::rs) S2=none:=by
  show ((fz (.r i) S2).bind _)=_;have:fz (.r i) S2=none:=by
   show (match S2[i]? with|some (.lst es)=>(datas es).map λds=>(Φ ds,S2.set i (.frz es))|some (.frz es)=>(datas es).map λds=>(Φ ds,S2)|_=>none)=_;rw[h3]
  rw[this];rfl
 unfold mkL;rw[if_pos (show (Dp.DV.r i::rs).length<=most from hl),hz];rfl
theorem ext_own{f:FE}{fa:FA}{ρ:Dp.DEnv}{S S2:OS}{b:Nat}{acc ds:List Dp.DV}{d:Dp.DV}(h1:f ρ S=some (.r b,S))(h2:S[b]?=some (.lst acc))(h3:fa ρ S=some ([d],S2))(h4:S2[b]?=some (.lst acc))(h5:lsO d S2=some ds)(hl:acc.length+ds.length<=most):cx f fa ρ S=some (.d .none,S2.set b (.lst (acc++ds))):=by
 have o1:∀T:OS,T[b]?=some (.lst acc)->dq (.r b) T=some (b,acc):=λT h=>by
  show (match T[b]? with|some (.lst es)=>some (b,es)|_=>none)=_;rw[h]
 unfold cx;rw[h1];show ((dq (.r b) S).bind _)=_;rw[o1 S h2];show ((fa ρ S).bind _)=_;rw[h3];show ((dq (.r b) S2).bind _)=_;rw[o1 S2 h4];show ((lsO d S2).bind _)=_;rw[h5];show (if acc.length+ds.length<=most then _ else none)=_;rw[if_pos hl]
noncomputable abbrev ygl:FS:=Ï (ř (cx (Ä 1) (Ñ (Dp.Į false [none] (Ų (č qbh (Ñ (Ä 2) Î))) (Đ 0) υ (č yag (Ñ (ĵ (Ñ (Ä 0) Î)) Î))) Î))) ô
theorem ybn(k:Str)(ks:List Str):hlOf (k::ks)=hlOf [k]++hlOf ks:=by
 unfold hlOf;rw[List.flatMap_cons,List.flatMap_cons,List.flatMap_nil,Ĺ]
theorem qi2{b:Nat}{x0:Option Dp.DV}:∀(ks:List Str),(∀k∈ks,k∈cQ)->∀(S:OS) (acc:List Dp.DV) (hl:List (Int×Â)) (x2:Option Dp.DV),S[b]?=some (.lst acc)->cb S.length S (b+1) acc hl->acc.length+10*ks.length<=1000->
  ∃x2' S' acc',Dp.Ľ (Đ 2) ygl (ks.map λk=>.d (.str k)) [x0,some (.r b),x2] S=some (.nx [x0,some (.r b),x2'],S')/\S'[b]?=some (.lst acc')/\cb S'.length S' (b+1) acc' (hl++hlOf ks)/\(∀t,t<b->S'[t]?=S[t]?)/\S.length<=S'.length
 |[],_,S,acc,hl,x2,hb,mo,_=>⟨x2,S,acc,rfl,hb,by rw[show hl++hlOf []=hl from Ĺ _];exact mo,λ_ _=>rfl,Ò _⟩
 |k::ks,hk,S,acc,hl,x2,hb,mo,hlen=>by
  have hlen':acc.length+10*(ks.length+1)<=1000:=hlen;obtain ⟨q1,q2,q3,q4,_⟩:=qj7 (hk k Ì);obtain ⟨refs,S1,g1,g2,g3,g4⟩:=qhc (ρ:=[]) (hlOf [k]) S q3;have lr:refs.length=(hlOf [k]).length:=g4.len;have bS:b<S.length:=(É.mp hb).1;generalize hhe:hlOf [k]=he at *
  match refs,he,g4 with
  |.r i::rs,e::he,⟨j,a1,a2,a3,a4,a5,a6⟩=>
   have mo2:cb S1.length S1 S.length (.r i::rs) (e::he):=⟨j,a1,a2,a3,a4,a5,a6⟩;simp only[Ė]at lr q2;have c1:Dp.Į false [none] (Ų (č qbh (Ñ (Ä 2) Î))) (Đ 0) υ (č yag (Ñ (ĵ (Ñ (Ä 0) Î)) Î)) [x0,some (.r b),some (.d (.str k))] S=some (.r S1.length,S1++[.lst (.r i::rs)]):=
    comp_r (it_l (bU (dd:=[.str k]) rfl q4)) g1 a4 (by show rs.length<100000;omega)
   have hb1:(S1++[OD.lst (.r i::rs)])[b]?=some (.lst acc):=ybd (by rw[g3 b bS];exact hb);have hls:lsO (.r S1.length) (S1++[OD.lst (.r i::rs)])=some (.r i::rs):=by
    show (match (S1++[OD.lst (.r i::rs)])[S1.length]? with|some (.lst es)=>some es|some (.frz es)=>some es|_=>none)=_;rw[ö (Ò _),sub_self];rfl
   have body:ygl [x0,some (.r b),some (.d (.str k))] S=some (.nx [x0,some (.r b),some (.d (.str k))],(S1++[OD.lst (.r i::rs)]).set b (.lst (acc++.r i::rs))):=
    Ş (qcy (ext_own rfl hb (ś c1 rfl) hb1 hls (by show acc.length+(rs.length+1)<=100000;omega))) rfl
   have k1:∀t,t≠b->t<S1.length->((S1++[OD.lst (.r i::rs)]).set b (.lst (acc++.r i::rs)))[t]?=S1[t]?:=λt a c=>by rw[í (ń a),ë c]
   have l2:((S1++[OD.lst (.r i::rs)]).set b (.lst (acc++.r i::rs))).length=S1.length+1:=by rw[Ł,Ó];rfl
   have hb2:((S1++[OD.lst (.r i::rs)]).set b (.lst (acc++.r i::rs)))[b]?=some (.lst (acc++.r i::rs)):=ą (by rw[Ó];show b<S1.length+1;omega);generalize hS2:(S1++[OD.lst (.r i::rs)]).set b (.lst (acc++.r i::rs))=S2 at body k1 l2 hb2;have m2:cb S2.length S2 (b+1) (acc++.r i::rs) (hl++e::he):=
    (mo.mono (Ò _) λt a c=>by rw[k1 t (by omega) (by omega),g3 t c]).app (by omega) (Ò _) (by omega) ((mo2.mono (Ò _) λt a c=>k1 t (by omega) c).up (by omega))
   obtain ⟨x2',S',acc',r1,r2,r3,r4,r5⟩:=qi2 (b:=b) (x0:=x0) ks (λk h=>hk k (Ê _ h)) S2 (acc++.r i::rs) (hl++e::he) (some (.d (.str k))) hb2 m2 (by rw[Ó];simp only[Ė];omega);refine ⟨x2',S',acc',?_,r2,by rw[ybn,hhe,<-ō];exact r3,λt ht=>by rw[r4 t ht,k1 t (by omega) (by omega),g3 t (by omega)],by omega⟩;show ((ygl [x0,some (.r b),some (.d (.str k))] S).bind λq=>bT q (Dp.Ľ (Đ 2) ygl (ks.map λk=>.d (.str k))))=_;rw[body];exact r1
  |[],[],_=>exact absurd rfl q1
noncomputable abbrev bD(ks:List Str):Â:=.list (ks.map .str)
theorem ks_it(ks:List Str){ρ:Dp.DEnv}{S:OS}{e:FE}(h:e ρ S=some (.d (bD ks),S)):Ų e ρ S=some (ks.map λk=>.d (.str k),S):=by
 refine (it_l h).trans ?_;rw[ŷ];rfl
theorem ykh{ks:List Str}(hk:∀k∈ks,k∈cQ)(hl:10*ks.length<=1000)(S0:OS):∃S' acc,Dp.Ŧ 3 1 qay [.d (bD ks)] S0=some (.r S0.length,S')/\S'[S0.length]?=some (.lst acc)/\cb S'.length S' (S0.length+1) acc (hlOf ks)/\∀t,t<S0.length->S'[t]?=S0[t]?:=by
 have h0:(S0++[OD.lst []])[S0.length]?=some (.lst []):=by rw[ö (Ò _),sub_self];rfl
 obtain ⟨x2,S',acc,g1,g2,g3,g4,_⟩:=qi2 (b:=S0.length) (x0:=some (.d (bD ks))) ks hk (S0++[OD.lst []]) [] [] none h0 trivial (by simpa using hl);refine ⟨S',acc,ca rfl (Ş (bI (v:=.r S0.length) (S':=S0++[OD.lst []]) rfl) (Ş (dj (ks_it ks rfl) g1) (b9 rfl))),g2,g3,λt ht=>?_⟩;rw[g4 t ht,ë ht]
theorem hlOf_ne{ks:List Str}(hk:∀k∈ks,k∈cQ)(hn:ks≠[]):hlOf ks≠[]:=by
 match ks,hn with
 |k::ks,_=>
  rw[ybn];intro z;exact (qj7 (hk k Ì)).1 (List.append_eq_nil_iff.mp z).1
theorem mem_ok{ks:List Str}(hk:∀k∈ks,k∈cQ)(hn:ks≠[])(hl:10*ks.length<=1000)(S0:OS):∃S' acc,ybl [.d (bD ks)] S0=some (.r S0.length,S')/\S'[S0.length]?=some (.lst acc)/\cb S'.length S' (S0.length+1) acc (hlOf ks)/\∀t,t<S0.length->S'[t]?=S0[t]?:=by
 obtain ⟨S1,acc1,h1,h2,h3,_⟩:=ykh hk hl [];obtain ⟨S',acc,g1,g2,g3,g4⟩:=ykh hk hl S0;refine ⟨S',acc,?_,g2,g3,g4⟩;show dW (Dp.Ŧ 3 1 qay) [.d (bD ks)] S0=_;have hp:eQ (Dp.Ŧ 3 1 qay) [.d (bD ks)] S0=none:=by
  show ((Dp.Ŧ 3 1 qay [.d (bD ks)] []).bind _)=_;rw[h1];show ((fz (.r 0) S1).map _)=_;have:fz (.r 0) S1=none:=by
   show (match S1[0]? with|some (.lst es)=>(datas es).map λds=>(Φ ds,S1.set 0 (.frz es))|some (.frz es)=>(datas es).map λds=>(Φ ds,S1)|_=>none)=_;rw[show S1[0]?=some (.lst acc1) from h2];have hd:datas acc1=none:=by
    have hne:=hlOf_ne hk hn
    match acc1,hlOf ks,hne,h3 with
    |.r i::_,_::_,_,_=>rfl
    |.d _::_,_::_,_,h=>exact h.elim
    |[],_::_,_,h=>exact h.elim
   show (datas acc1).map _=_;rw[hd];rfl
  rw[this];rfl
 unfold dW;rw[hp,æ];exact g1
theorem qjj{cs:List Str}{nm c:Str}{f g:FE}{ρ:Dp.DEnv}{S S1:OS}{i:Nat}{fs:List (Str×Dp.DV)}{v:Dp.DV}(h1:g ρ S=some (v,S1))(h2:f ρ S1=some (.r i,S1))(h3:S1[i]?=some (.ins c fs))(h4:cs.contains c=true)(h5:fs.length<900):fu cs nm f g ρ S=some (.nx ρ,S1.set i (.ins c (bW nm v fs))):=by
 unfold fu;rw[h1];show ((f ρ S1).bind _)=_;rw[h2];show (match S1[i]? with|some (.ins c fs)=>if cs.contains c=true/\fs.length<900 then some (Dp.Out.nx ρ,S1.set i (.ins c (bW nm v fs))) else none|_=>none)=_;rw[h3];show (if cs.contains c=true/\fs.length<900 then _ else none)=_;rw[if_pos ⟨h4,h5⟩]
theorem yio{ks:List Str}(hk:∀k∈ks,k∈cQ)(hn:ks≠[])(hl:10*ks.length<=1000):∃S fd ms,yak [.r 0,.d (bD ks)] [.ins "Stands" []]=some (.d .none,S)/\InitOk S 0 1 fd 2 ms (hlOf ks)/\S[1]?=some (.lst ms):=by
 obtain ⟨S1,acc,g1,g2,g3,g4⟩:=mem_ok hk hn hl [.ins "Stands" []];have h0:S1[0]?=some (.ins "Stands" []):=g4 0 (by decide);have h1:S1[1]?=some (.lst acc):=g2;have l1:1<S1.length:=(É.mp h1).1;have e0:(S1.set 0 (.ins "Stands" [("memories",.r 1)]))[0]?=some (.ins "Stands" [("memories",.r 1)]):=ą (by omega);have e0':((S1.set 0 (.ins "Stands" [("memories",.r 1)]))++[OD.dt []])[0]?=some (.ins "Stands" [("memories",.r 1)]):=ybd e0;have lS:(S1.set 0 (.ins "Stands" [("memories",.r 1)])).length=S1.length:=Ł;have k:∀t,0<t->t<S1.length->(((S1.set 0 (.ins "Stands" [("memories",.r 1)]))++[OD.dt []]).set 0 (.ins "Stands" [("memories",.r 1),("found",.r S1.length)]))[t]?=S1[t]?:=λt a b=>by
  rw[í (by omega),ë (by rw[lS];exact b),í (by omega)]
 refine ⟨_,S1.length,acc,(ydv rfl).trans ?_,⟨?_,.inl ((k 1 (by decide) l1).trans h1),?_,g3.mono (Ò _) λt a b=>k t (by omega) b⟩,(k 1 (by decide) l1).trans h1⟩
 ·show (((Ï (fu ["Stands"] "memories" (Ä 0) (č ybl (Ñ (Ä 1) Î))) (Ï (fu ["Little","Stands"] "found" (Ä 0) (de true)) ô)) [some (.r 0),some (.d (bD ks))] [.ins "Stands" []]).map _)=_;rw[Ş (qjj (b6 (ś rfl rfl) g1) rfl h0 rfl (by decide)) (Ş (qjj (v:=.r S1.length) (S1:=(S1.set 0 (.ins "Stands" [("memories",.r 1)]))++[OD.dt []]) (by show some (Dp.DV.r (List.set S1 0 _).length,_)=_;rw[Ł];rfl) rfl e0' rfl (by decide)) rfl)];rfl
 ·exact ą (by rw[Ó];show 0<_+1;omega)
 ·rw[í (by omega),ö (by omega),lS,sub_self];rfl
theorem qg0{x0:Option Dp.DV}{S:OS}:∀(ks:List Str),(∀k∈ks,k∈cQ)->∀(hl:List (Int×Â)) (x2:Option Dp.DV),hl.length+10*ks.length<=1000->∃x2',Dp.Ľ (Đ 2) (Ï (Č (ß ł (Ä 1) (č yam (Ñ (Ä 2) Î))) (Đ 1)) ô) (ks.map λk=>.d (.str k)) [x0,some (.d (.list (hD hl))),x2] S=some (.nx [x0,some (.d (.list (hD (hl++hlOf ks)))),x2'],S)
 |[],_,hl,x2,_=>⟨x2,by rw[show hl++hlOf []=hl from Ĺ _];rfl⟩
 |k::ks,hk,hl,x2,hlen=>by
  have hlen':hl.length+10*(ks.length+1)<=1000:=hlen;obtain ⟨q1,q2,q3,_,q5⟩:=qj7 (hk k Ì);obtain ⟨x2',g⟩:=qg0 (x0:=x0) (S:=S) ks (λk h=>hk k (Ê _ h)) (hl++hlOf [k]) (some (.d (.str k))) (by rw[Ó];omega);refine ⟨x2',?_⟩;rw[ybn,<-ō];have hadd:ł (.d (.list (hD hl))) (.d (.list (hD (hlOf [k])))) S=some (.d (.list (hD (hl++hlOf [k]))),S):=by
   have h1:∀l:List Â,cA (.d (.list l)) S=some (false,l):=λl=>by
    show ((datas (l.map Dp.DV.d)).map λds=>(false,ds))=_;rw[eF];rfl
   show ((iG (λi j:Int=>i+j) (.d (.list (hD hl))) (.d (.list (hD (hlOf [k])))) S).or ((bZ false (.d (.list (hD hl))) (.d (.list (hD (hlOf [k])))) S).or (dZ (bZ true) fc (.d (.list (hD hl))) (.d (.list (hD (hlOf [k])))) S)))=_;rw[show iG (λi j:Int=>i+j) (.d (.list (hD hl))) (.d (.list (hD (hlOf [k])))) S=none from rfl,æ];have:bZ false (.d (.list (hD hl))) (.d (.list (hD (hlOf [k])))) S=some (.d (.list (hD (hl++hlOf [k]))),S):=by
    unfold bZ;rw[h1,h1];show dG (hD hl++hD (hlOf [k])) (.list (hD hl++hD (hlOf [k]))) S=_;unfold dG;rw[if_pos (by rw[Ó,Ð,Ð];show _<=100000;omega),show hD (hl++hlOf [k])=hD hl++hD (hlOf [k]) from ň]
   rw[this];rfl
  have body:(Ï (Č (ß ł (Ä 1) (č yam (Ñ (Ä 2) Î))) (Đ 1)) ô) [x0,some (.d (.list (hD hl))),some (.d (.str k))] S=some (.nx [x0,some (.d (.list (hD (hl++hlOf [k])))),some (.d (.str k))],S):=Ş (bI (Dp.op_eq rfl (bU (dd:=[.str k]) rfl q5) hadd)) rfl;show (((Ï (Č (ß ł (Ä 1) (č yam (Ñ (Ä 2) Î))) (Đ 1)) ô) [x0,some (.d (.list (hD hl))),some (.d (.str k))] S).bind _)=_;rw[body];exact g
theorem all_ok{ks:List Str}(hk:∀k∈ks,k∈cQ)(hl:10*ks.length<=1000):val yap [bD ks]=some (.list (hD (hlOf ks))):=by
 obtain ⟨x2,g⟩:=qg0 (x0:=some (.d (bD ks))) (S:=[]) ks hk [] none (by simpa using hl);exact dM (S1:=[]) (S2:=[]) (ca rfl (Ş (bI (v:=.d (.list [])) (S':=[]) rfl) (Ş (dj (ks_it ks rfl) g) (b9 rfl)))) rfl
noncomputable def frsT(h:Â)(n:Int):Option (List (Â×Dp.DV)):=match Dp.Ŧ 4 1 yai [.r 0] [lit n h 1,.dt []] with
 |some (.r 2,_::_ :: .dt ps::_)=>some ps
 |_=>none
noncomputable def bK(n:Int)(h:Â):List Â:=match val qat [.int n] with
 |some (.list cs)=>srt (cs.filterMap λc=>val dz [.list [h],c])
 |_=>[]
noncomputable def ygz:OD->Bool
 |.lst es=>(datas es).isSome
 |.frz es=>(datas es).isSome
 |.dt ps=>(datas (ps.map (·.2))).isSome
 |_=>false
noncomputable def chkF(n:Int)(h:Â):Bool:=match Dp.Ŧ 4 1 yai [.r 0] [lit n h 1,.dt []] with
 |some (.r i,o::o2 :: .dt ps::ext)=>decide (i=2)&&deqI o (lit n h 1)&&nilO o2&&cS (ps.map (·.1))&&eP (b7 ci (ps.map (·.1))) (bK n h)&&ygz (.dt ps)&&ext.all ygz&&decide ((bK n h).length<=4)&&(bK n h).all λc=>(aQ n).any (deq c)
 |_=>false
theorem frs_tab:(hs.all λe=>chkF e.1 e.2)=true:=by decide +kernel
theorem ye9{S:OS}{n i:Nat}{w acc:List Nat}{o:OD}(h1:acc.contains i=false)(h2:S[i]?=some o):reach S (n+1) (i::w) acc=reach S n (refsO o++w) (acc++[i]):=by
 show (if acc.contains i=true then _ else _)=_;rw[if_neg (by rw[h1];exact ú),h2]
theorem yc9{es:List Dp.DV}(h:(datas es).isSome=true):∃dd:List Â,es=dd.map .d:=by
 obtain ⟨dd,e⟩:=Ż.mp h;exact ⟨dd,(yex e).symm⟩
theorem yg0:∀ps:List (Â×Dp.DV),(ps.map (·.1)).zip (ps.map (·.2))=ps
 |[]=>rfl
 |p::ps=>congrArg (p :: ·) (yg0 ps)
theorem yki{f:Nat->Option Nat}{o:OD}(h:ygz o=true):eB f o=some o:=by
 cases o with
 |lst es=>
  obtain ⟨dd,rfl⟩:=yc9 h;show (bc f (dd.map .d)).map OD.lst=_;rw[qfj];rfl
 |frz es=>
  obtain ⟨dd,rfl⟩:=yc9 h;show (bc f (dd.map .d)).map OD.frz=_;rw[qfj];rfl
 |dt ps=>
  obtain ⟨dd,e⟩:=yc9 h;show (bc f (ps.map (·.2))).map (λvs=>OD.dt ((ps.map (·.1)).zip vs))=_;rw[e,qfj,<-e];show some (OD.dt ((ps.map (·.1)).zip (ps.map (·.2))))=_;rw[yg0]
 |_=>cases h
theorem qdx{f:Nat->Option Nat}:∀{os:OS},os.all ygz=true->bO f os=some os
 |[],_=>rfl
 |o::os,h=>by
  rw[Ĩ,Å]at h;show ((eB f o).bind λa=>(bO f os).map (a :: ·))=_;rw[yki h.1,qdx h.2];rfl
theorem ye3{n:Int}{h:Â}(hh:(n,h)∈hs){S:OS}{i j:Nat}(hi:S[i]?=some (lit n h j))(hj:S[j]?=some (.dt [])):∃ps ext,qbb [.r i] S=some (.r S.length,S++.dt ps::ext)/\cS (ps.map (·.1))=true/\b7 ci (ps.map (·.1))=bK n h/\InL n (bK n h):=by
 have k:=Û.mp frs_tab _ hh;have ne:i≠j:=λz=>by rw[z,hj]at hi;cases hi
 unfold chkF at k;split at k
 ·rename_i i0 o o2 ps ext e
  simp only[Å,decide_eq_true_eq]at k;obtain ⟨⟨⟨⟨⟨⟨⟨⟨rfl,k5⟩,k6⟩,k7⟩,k8⟩,k9⟩,k10⟩,k11⟩,k12⟩:=k;rw[qij k5,qjw k6]at e;refine ⟨ps,ext,?_,k7,qen k8,k11,λx hx=>qeu (Û.mp k12 x hx)⟩;have p0:bC [i,j] i=some 0:=by unfold bC;simp[List.findIdx?_cons]
  have p1:bC [i,j] j=some 1:=by unfold bC;simp[List.findIdx?_cons,ne]
  have hr:reach S 1000 ([Dp.DV.r i].flatMap cg) []=[i,j]:=by
   show reach S (999+1) [i] []=_;rw[ye9 rfl hi];show reach S (998+1) [j] [i]=_;rw[ye9 (by simp[ń ne]) hj];rfl
  show (eQ (Dp.Ŧ 4 1 yai) [.r i] S).or (eI (Dp.Ŧ 4 1 yai) [.r i] S)=_;rw[show eQ (Dp.Ŧ 4 1 yai) [.r i] S=none from rfl,æ];unfold eI;rw[hr];show (if [i,j].Nodup then (bc (bC [i,j]) [.r i]).bind _ else none)=_;rw[if_pos (by simp[ne])];have q1:bc (bC [i,j]) [.r i]=some [.r 0]:=by
   show ((bC [i,j] i).map Dp.DV.r).bind _=_;rw[p0];rfl
  have q2:objs S [i,j]=some [lit n h j,.dt []]:=by
   show ((S[i]?).bind λo=>((S[j]?).bind λo=>some [o]).map (o :: ·))=_;rw[hi,hj];rfl
  have q3:bO (bC [i,j]) [lit n h j,.dt []]=some [lit n h 1,.dt []]:=by
   show ((((bC [i,j] j).map Dp.DV.r).bind λa=>some [a]).map _ |>.map _ |>.map _ |>.bind _)=_;rw[p1];rfl
  have q4:bO (di [i,j] S.length) (.dt ps::ext)=some (.dt ps::ext):=qdx (by rw[Ĩ,k9,k10];rfl);rw[q1];show ((objs S [i,j]).bind _)=_;rw[q2];show ((bO (bC [i,j]) [lit n h j,.dt []]).bind _)=_;rw[q3];show ((Dp.Ŧ 4 1 yai [.r 0] [lit n h 1,.dt []]).bind _)=_;rw[e];show (((((bO (di [i,j] S.length) (.dt ps::ext)).map (OD.dt [] :: ·)).map (lit n h j :: ·)).map λT2=>(Dp.DV.r S.length,dm [i,j] T2 S++T2.drop 2)))=_;rw[q4];show some (Dp.DV.r S.length,(S.set i (lit n h j)).set j (.dt [])++.dt ps::ext)=_;rw[qcb hi,qcb hj]
 ·cases k
noncomputable def bF(hl:List (Int×Â)):List Â:=hl.map λe=>.tuple (bK e.1 e.2)
theorem sort_dt{S:OS}{i:Nat}{ps:List (Â×Dp.DV)}(h:S[i]?=some (.dt ps))(hk:cS (ps.map (·.1))=true):yhu [.r i] S=some (.d (.list (b7 ci (ps.map (·.1)))),S):=by
 have h1:dR [.r i] S=none:=by
  show ((lsD (.r i) S).bind _)=_;have:lsD (.r i) S=none:=by
   show (lsO (.r i) S).bind datas=_;have:lsO (.r i) S=none:=by
    show (match S[i]? with|some (.lst es)=>some es|some (.frz es)=>some es|_=>none)=_;rw[h]
   rw[this];rfl
  rw[this];rfl
 show ((dR [.r i] S).or (fo [.r i] S))=_;rw[h1,æ];show ((dB (.r i) S).bind _)=_;rw[qjt h];show (if true=true/\cS (ps.map (·.1))=true then _ else none)=_;rw[if_pos ⟨rfl,hk⟩]
noncomputable abbrev ygn:FE:=č ax (Ñ (č yhu (Ñ (cK "firsts" [("Little",qbb)] (Ä 0) Î) Î)) Î)
theorem fs_cmp{hi:Nat}:∀(rs:List Dp.DV) (hl:List (Int×Â)) (lo:Nat) (S:OS),cb hi S lo rs hl->(∀e∈hl,e∈hs)->hi<=S.length->∃S',bf (Đ 0) υ ygn [none] rs S=some ((bF hl).map .d,S')
 |[],[],_,S,_,_,_=>⟨S,rfl⟩
 |.r i::rs,e::hl,lo,S,⟨j,q1,q2,q3,q4,q5,q6⟩,hh,hhi=>by
  obtain ⟨ps,ext,g1,g2,g3,g4⟩:=ye3 (n:=e.1) (h:=e.2) (hh e Ì) q4 q5;have hL:(S++OD.dt ps::ext)[S.length]?=some (.dt ps):=by rw[ö (Ò _),sub_self];rfl
  obtain ⟨S',r⟩:=fs_cmp rs hl (j+1) (S++OD.dt ps::ext) (q6.mono (Ò _) λt a b=>ë (by omega)) (λe he=>hh e (Ê _ he)) (by rw[Ó];omega);refine ⟨S',?_⟩;have body:ygn [some (.r i)] S=some (.d (.tuple (bK e.1 e.2)),S++OD.dt ps::ext):=
   b6 (ś (b6 (ś (yb3 rfl q4 rfl rfl rfl g1) rfl) (by rw[sort_dt hL g2,g3])) rfl) yhx
  show ((ygn [some (.r i)] S).bind _)=_;rw[body];show ((bf (Đ 0) υ ygn [none] rs (S++OD.dt ps::ext)).bind _)=_;rw[r];rfl
 |.d _::_,_::_,_,_,h,_,_=>h.elim
 |[],_::_,_,_,h,_,_=>h.elim
 |.r _::_,[],_,_,h,_,_=>h.elim
 |.d _::_,[],_,_,h,_,_=>h.elim
theorem first_ok{S:OS}{s ml fd lo:Nat}{ms:List Dp.DV}{hl:List (Int×Â)}(I:InitOk S s ml fd lo ms hl)(hml:ml<lo)(hne:ml≠fd)(hm:S[ml]?=some (.lst ms))(hh:∀e∈hl,e∈hs)(hlen:hl.length<=1000):∃S',qb0 [.r s] S=some (.d (.tuple [.none,.tuple (bF hl)]),S'):=by
 have lfd:fd<S.length:=(É.mp I.fnd).1;obtain ⟨S',g⟩:=fs_cmp ms hl lo (S.set ml (.frz ms)) (I.all.mono (Ò _) λt a b=>í (by omega)) hh (by rw[Ł];omega);have it:Ų (bp ["Stands"] "memories" (Ä 0)) [some (.r s)] S=some (ms,S.set ml (.frz ms)):=by
  unfold Ų;rw[ybz rfl I.self rfl rfl];show (match S[ml]? with|some (.lst es)=>some (es,S.set ml (.frz es))|some (.frz es)=>some (es,S)|_=>none)=_;rw[hm]
 have lf:(bF hl).length<=most:=by unfold bF;rw[Ð];exact Ğ hlen (by decide)
 exact ⟨S',(ydv rfl).trans (ca rfl (b9 (eE (yfh (dd:=[.none,.tuple (bF hl)]) (ś rfl (ś (b6 (ś (qd1 it g lf) rfl) yhx) rfl)) (by show 2<=100000;decide)))))⟩
noncomputable def chkG(n:Int)(h:Â):Bool:=(match val qbl [h] with|some d=>deq d (.int n)|none=>false)&&(match val qat [.int n] with
 |some (.list cs)=>(cs.all λc=>(val dz [.list [h],c]).isSome)&&decide (cs.length<=4)&&qfq (cs.filterMap λc=>val dz [.list [h],c])
 |_=>false)
theorem lfs_tab:(hs.all λe=>chkG e.1 e.2)=true:=by decide +kernel
theorem lfs_ok{n:Int}{h:Â}(hh:(n,h)∈hs):val qbl [h]=some (.int n)/\∃cs,val qat [.int n]=some (.list cs)/\(∀c∈cs,∃d,val dz [.list [h],c]=some d)/\cs.length<=4/\qfq (cs.filterMap λc=>val dz [.list [h],c])=true/\bK n h=srt (cs.filterMap λc=>val dz [.list [h],c]):=by
 have k:=Û.mp lfs_tab _ hh;unfold chkG at k;rw[Å]at k;obtain ⟨k1,k2⟩:=k;refine ⟨?_,?_⟩
 ·split at k1
  ·rename_i d e;rw[e,ee k1]
  ·cases k1
 ·split at k2
  ·rename_i cs e
   simp only[Å,decide_eq_true_eq]at k2;refine ⟨cs,e,λc hc=>Ż.mp (Û.mp k2.1.1 c hc),k2.1.2,k2.2,?_⟩;unfold bK;rw[e]
  ·cases k2
noncomputable abbrev qha:FS:=Ï (ř (aA (Ä 1) (Ñ (č ax (Ñ (č qa1 (Ñ (Dp.Į false [none,some 2] (Ų (č qat (Ñ (č qbl (Ñ (Ä 2) Î)) Î))) (Đ 0) υ (č dz (Ñ (ĵ (Ñ (Ä 1) Î)) (Ñ (Ä 0) Î)))) Î)) Î)) Î))) ô
theorem qie{x0:Option Dp.DV}:∀(hl:List (Int×Â)) (acc:List Â) (x2:Option Dp.DV),(∀e∈hl,e∈hs)->acc.length+hl.length<=1000->∃x2',Dp.Ľ (Đ 2) qha ((hD hl).map .d) [x0,some (.r 0),x2] [.lst (acc.map .d)]=some (.nx [x0,some (.r 0),x2'],[.lst ((acc++bF hl).map .d)])
 |[],acc,x2,_,_=>⟨x2,by rw[show acc++bF []=acc from Ĺ _];rfl⟩
 |e::hl,acc,x2,hh,hlen=>by
  have hlen':acc.length+(hl.length+1)<=1000:=hlen;obtain ⟨p1,cs,p2,p3,p4,p5,p6⟩:=lfs_ok (n:=e.1) (h:=e.2) (hh e Ì);obtain ⟨S2,g1,rfl⟩:=ycn (fg:=Đ 0) (ft:=υ) (f:=č dz (Ñ (ĵ (Ñ (Ä 1) Î)) (Ñ (Ä 0) Î))) (ρ:=[none,some (.d e.2)]) (cs.map .d) (λx=>match x with|.d c=>(val dz [.list [e.2],c]).map .d|.r _=>none) (λT=>T=[.lst (acc.map .d)]) (S:=[.lst (acc.map .d)]) rfl λx hx T hT=>by
   subst hT;obtain ⟨c,hc,rfl⟩:=Ō.mp hx;obtain ⟨d,hd⟩:=p3 c hc;exact ⟨_,rfl,true,_,rfl,.inr ⟨rfl,.d d,_,bU (dd:=[.list [e.2],c]) rfl hd,by show (val dz [.list [e.2],c]).map Dp.DV.d=_;rw[hd];rfl,rfl⟩⟩
  have e1:((cs.map Dp.DV.d).filterMap λx=>match x with|.d c=>(val dz [.list [e.2],c]).map Dp.DV.d|.r _=>none)=(cs.filterMap λc=>val dz [.list [e.2],c]).map .d:=by
   clear g1 p2 p3 p4 p5 p6;induction cs with
   |nil=>rfl
   |cons c cs ih=>
    rw[þ,Ę,Ę,ih];dsimp only;cases val dz [.list [e.2],c]<;>rfl
  rw[e1]at g1;have l4:(cs.filterMap λc=>val dz [.list [e.2],c]).length<=most:=Ğ (List.length_filterMap_le _ _) (Ğ p4 (by decide));have body:qha [x0,some (.r 0),some (.d e.2)] [.lst (acc.map .d)]=some (.nx [x0,some (.r 0),some (.d e.2)],[.lst (acc.map .d++[Dp.DV.d (.tuple (bK e.1 e.2))])]):=
   Ş (qcy (yb6 rfl (ś (b6 (ś (b6 (ś (qd1 (it_l (bU (dd:=[.int e.1]) (ś (bU (dd:=[e.2]) rfl p1) rfl) p2)) g1 l4) rfl) (by rw[yka p5];show some (Dp.DV.d (.list (srt _)),_)=_;rw[<-p6])) rfl) yhx) rfl) rfl (by rw[Ð];exact ž (by omega:acc.length<=1000) (by decide)))) rfl
  obtain ⟨x2',g2⟩:=qie (x0:=x0) hl (acc++[.tuple (bK e.1 e.2)]) (some (.d e.2)) (λe he=>hh e (Ê _ he)) (by rw[Ó];simp;omega);refine ⟨x2',?_⟩;show ((qha [x0,some (.r 0),some (.d e.2)] [.lst (acc.map .d)]).bind λq=>bT q (Dp.Ľ (Đ 2) qha ((hD hl).map .d)))=_;rw[body,show acc++bF (e::hl)=(acc++[.tuple (bK e.1 e.2)])++bF hl by rw[ō];rfl];rw[ň]at g2;exact g2
theorem yen{ks:List Str}(hk:∀k∈ks,k∈cQ):∀e∈hlOf ks,e∈hs:=λe he=>by
 induction ks with
 |nil=>cases he
 |cons k ks ih=>
  rw[ybn]at he;rcases ŀ.mp he with he|he
  ·exact (qj7 (hk k Ì)).2.2.1 e he
  ·exact ih (λk h=>hk k (Ê _ h)) he
theorem yc4{ks:List Str}(hk:∀k∈ks,k∈cQ):(hlOf ks).length<=10*ks.length:=by
 induction ks with
 |nil=>exact ķ _
 |cons k ks ih=>
  rw[ybn,Ó,Ė];have:=(qj7 (hk k Ì)).2.1;have:=ih λk h=>hk k (Ê _ h);omega
theorem qi9{ks:List Str}(hk:∀k∈ks,k∈cQ)(hl:10*ks.length<=1000):val yaq [bD ks]=some (.tuple [.none,.tuple (bF (hlOf ks))]):=by
 have h1:=yc4 hk;obtain ⟨x2,g⟩:=qie (x0:=some (.d (bD ks))) (hlOf ks) [] none (yen hk) (by simp;omega);exact dM (S1:=[.lst ((bF (hlOf ks)).map .d)]) (S2:=[.lst ((bF (hlOf ks)).map .d)]) (ca rfl (Ş (bI (v:=.r 0) (S':=[.lst []]) rfl) (Ş (dj (it_l (bU (dd:=[bD ks]) rfl (all_ok hk hl))) g) (b9 (eE (yfh (dd:=[.none,.tuple (bF (hlOf ks))]) (ś rfl (ś (b6 (ś rfl rfl) (qgf rfl)) rfl)) (by show 2<=100000;decide))))))) rfl
theorem fst_ok{ks:List Str}(hk:∀k∈ks,k∈cQ)(hn:ks≠[])(hl:10*ks.length<=1000):val ya5 [bD ks]=some (.tuple [.none,.tuple (bF (hlOf ks))]):=by
 obtain ⟨S,fd,ms,h1,I,hm1⟩:=yio hk hn hl;have h2:=yc4 hk;have hne:(1:Nat)≠fd:=λz=>by
  have h:=I.mem;rw[z,I.fnd]at h;exact h.elim (λh=>by cases h) λh=>by cases h
 have hm:yf3 "Stands" yak (Ñ (Ä 0) Î) [some (.d (bD ks))] []=some (.r 0,S):=by
  show ((yak [.r 0,.d (bD ks)] [.ins "Stands" []]).bind _)=_;rw[h1];rfl
 obtain ⟨S',g⟩:=first_ok I (by decide) hne hm1 (yen hk) (by omega);exact dM (S1:=S') (S2:=S') (ca rfl (b9 (eE (yb3 hm I.self rfl rfl rfl g)))) rfl
inductive Gd:Nat->Â->Prop
 |int (n:Nat) (i:Int):Gd (n+1) (.int i)
 |non (n:Nat):Gd (n+1) .none
 |tup (n:Nat) (l:List Â):l.length<=1000->(∀x∈l,Gd n x)->Gd (n+1) (.tuple l)
theorem yjp{i:Int}{S:OS}:ż (.d (.int i)) (.d (.int i)) S=some (.d (.bool true),S):=by
 show some (Dp.DV.d (.bool (xor false (i == i))),S)=_;rw[beq_self_eq_true];rfl
theorem yj3{i:Int}{S:OS}:d7 (.d (.int i)) (.d (.int i)) S=some (.d (.bool false),S):=by
 show some (Dp.DV.d (.bool (xor true (i == i))),S)=_;rw[beq_self_eq_true];rfl
theorem ix_t{l:List Â}{k:Nat}{x:Â}{S:OS}(h:l[k]?=some x):á (.d (.tuple l)) (.d (.int (k:Nat))) S=some (.d x,S):=by
 have hl:=(É.mp h).1;have h1:L2.atI (l.map Dp.DV.d) (k:Int)=some (.d x):=by
  unfold L2.atI;have:eL (l.map Dp.DV.d).length (k:Int)=some k:=by
   unfold eL;rw[Ð];simp;omega
  rw[this];simp[h]
 show (((L2.atI (l.map Dp.DV.d) (k:Int)).map λe=>(e,S)).or _)=_;rw[h1];rfl
theorem qin:∀(n:Nat) {d:Â},Gd n d->∀S,yaz n [.d d,.d d] S=some (.d (.bool true),S)
 |n+1,d,g,S=>by
  refine F_val (dd:=[d,d]) ?_ S;cases g with
  |int _ i=>
   refine dM (r:=.d (.bool true)) (S1:=[]) (S2:=[]) (ca rfl (Ş (qf9 rfl rfl) (b9 (eE ?_)))) rfl;show (Dp.bu (ß ż (Ä 0) (Ä 1)) _ _ _)=_;unfold Dp.bu;rw[Dp.op_eq rfl rfl yjp];rfl
  |non _=>exact dM (r:=.d (.bool true)) (S1:=[]) (S2:=[]) rfl rfl
  |tup _ l hl hx=>
   have hlen:∀i:Nat,i<2->č az (Ñ (Ä i) Î) [some (.d (.tuple l)),some (.d (.tuple l))] []=some (.d (.int l.length),[]):=λi hi=>by
    have:i=0\/i=1:=by omega
    rcases this with rfl|rfl<;>exact b6 (ś rfl rfl) len_t
   refine dM (r:=.d (.bool true)) (S1:=[]) (S2:=[]) (ca rfl (b9 (yh5 rfl (Ş (S':=[]) (qf9 (S':=[]) ?_ rfl) (b9 (eE ?_)))))) rfl
   ·show (Dp.ò (ß d7 (č az (Ñ (Ä 0) Î)) (č az (Ñ (Ä 1) Î))) [some (.d (.tuple l)),some (.d (.tuple l))] [])=_;exact yf4 (Dp.op_eq (hlen 0 (by decide)) (hlen 1 (by decide)) yj3)
   ·obtain ⟨S2,g1,rfl⟩:=ycn (fg:=Đ 0) (ft:=Dp.χ (Dp.ò (č (yaz n) (Ñ (ß á (Ä 1) (Ä 0)) (Ñ (ß á (Ä 2) (Ä 0)) Î))))) (f:=Ä 0) (ρ:=[none,some (.d (.tuple l)),some (.d (.tuple l))]) ((õ l.length).map λi=>.d (.int (i:Nat))) (λ_=>none) (λT=>T=[]) (S:=[]) rfl λx hm T hT=>by
     subst hT;obtain ⟨k,hk,rfl⟩:=Ō.mp hm;have hk:=mem_range.mp hk;have hx1:=Í hk;have hc:č (yaz n) (Ñ (ß á (Ä 1) (Ä 0)) (Ñ (ß á (Ä 2) (Ä 0)) Î)) [some (.d (.int (k:Nat))),some (.d (.tuple l)),some (.d (.tuple l))] []=some (.d (.bool true),[]):=
      b6 (ś (Dp.op_eq rfl rfl (ix_t hx1)) (ś (Dp.op_eq rfl rfl (ix_t hx1)) rfl)) (qin n (hx _ (ε hk)) [])
     refine ⟨_,rfl,false,[],?_,.inl ⟨rfl,rfl,rfl⟩⟩;show ((Dp.ò (č (yaz n) (Ñ (ß á (Ä 1) (Ä 0)) (Ñ (ß á (Ä 2) (Ä 0)) Î))) [some (.d (.int (k:Nat))),some (.d (.tuple l)),some (.d (.tuple l))] []).map λp=>(!p.1,p.2))=_;rw[yf4 hc];rfl
    have hf:∀es:List Dp.DV,es.filterMap (λ_=>(none:Option Dp.DV))=([]:List Â).map .d:=λes=>by
     induction es with
     |nil=>rfl
     |cons e es ih=>rw[Ę];exact ih
    rw[hf]at g1;have hr:bz (Ñ (č az (Ñ (Ä 1) Î)) Î) [some (.d (.tuple l)),some (.d (.tuple l))] []=some ((õ l.length).map λi=>.d (.int (i:Nat)),[]):=by
     unfold bz;rw[ś (hlen 1 (by decide)) rfl];show (if 0<=((l.length:Nat):Int)/\((l.length:Nat):Int)<=most then _ else none)=_;rw[if_pos ⟨by omega,by show ((l.length:Nat):Int)<=((100000:Nat):Int);omega⟩];rfl
    exact Dp.op_eq (qd1 hr g1 (by decide)) rfl rfl
theorem mod_i{i j:Int}{S:OS}(h:0<j):ap (.d (.int i)) (.d (.int j)) S=some (.d (.int (i % j)),S):=by
 show ((if decide (0<j)=true then some (û (i % j)) else none).map λr=>(Dp.DV.d r,S))=_;rw[if_pos (decide_eq_true h)];rfl
theorem div_i{i j:Int}{S:OS}(h:0<j)(h2:j<=18446744073709551616):cN (.d (.int i)) (.d (.int j)) S=some (.d (.int (i / j)),S):=by
 show ((if (decide (0<j)&&decide (j<=18446744073709551616))=true then some (û (i / j)) else none).map λr=>(Dp.DV.d r,S))=_;rw[if_pos (by rw[Å];exact ⟨decide_eq_true h,decide_eq_true h2⟩)];rfl
theorem yj8{i j:Int}{S:OS}:ł (.d (.int i)) (.d (.int j)) S=some (.d (.int (i+j)),S):=rfl
theorem mul_i{i j:Int}{S:OS}(h:smB i=true):bo (.d (.int i)) (.d (.int j)) S=some (.d (.int (i*j)),S):=by
 show (((if (smB i||smB j)=true then some (û (i*j)) else none).map λr=>(Dp.DV.d r,S)).or _)=_;rw[if_pos (by rw[h];rfl)];rfl
theorem pow2_i{i:Int}{S:OS}(h:i.natAbs<2 ^ 64):fv (.d (.int i)) (.d (.int 2)) S=some (.d (.int (i ^ 2)),S):=by
 show ((if (decide ((0:Int)<=2)&&decide ((2:Int)<=1000000)&&decide (i.natAbs<2 ^ 64))=true then some (û (i ^ (2:Int).toNat)) else none).map λr=>(Dp.DV.d r,S))=_;rw[if_pos (by rw[Å];exact ⟨rfl,decide_eq_true h⟩)];rfl
noncomputable def Dg:List Int->List Int->Prop
 |[],[]=>True
 |d::ds,z::zs=>0<=d/\d<z/\Dg ds zs
 |_,_=>False
theorem Dg.snoc:∀{ds zs:List Int}{d z:Int},Dg ds zs->0<=d->d<z->Dg (ds++[d]) (zs++[z])
 |[],[],_,_,_,h1,h2=>⟨h1,h2,trivial⟩
 |_::ds,_::zs,_,_,⟨a,b,c⟩,h1,h2=>⟨a,b,c.snoc h1 h2⟩
 |[],_::_,_,_,h,_,_=>h.elim
 |_::_,[],_,_,h,_,_=>h.elim
noncomputable abbrev qff:FS:=Ï (Ĥ (Dp.ψ (Dp.ò (Ä 4)) (Dp.ò (ß gtB (Ä 3) (cF (.int 0))))) ((Ï (ř (aA (Ä 6) (Ñ (ß ap (Ä 3) (Ä 8)) Î))) (Ï (Č (ß cN (Ä 3) (Ä 8)) (Đ 3)) ô))) ((Ï (Č (ß ap (ß fv (ß ł (Ä 5) (ß bo (cF (.int 104729)) (ß ł (Ä 7) (cF (.int 1))))) (cF (.int 2))) (cF (.int 2147483587))) (Đ 5)) (Ï (ř (aA (Ä 6) (Ñ (ß ap (ß cN (Ä 5) (cF (.int 16))) (Ä 8)) Î))) ô)))) ô
theorem yiq{x0 x1 x2:Option Dp.DV}{w:Bool}:∀(zs:List Int),(∀z∈zs,0<z/\z<=1000)->∀(k:Nat) (ds done:List Int) (num seed:Int) (x7 x8:Option Dp.DV),Dg ds done->ds.length=k->k+zs.length<=100->0<=seed->seed<=3000000000->
  ∃num' seed' y7 y8 ds',Dp.Ľ (bN [7,8]) qff (aY k (zs.map .int)) [x0,x1,x2,some (.d (.int num)),some (.d (.bool w)),some (.d (.int seed)),some (.r 0),x7,x8] [.lst ((ds.map û).map .d)]=some (.nx [x0,x1,x2,some (.d (.int num')),some (.d (.bool w)),some (.d (.int seed')),some (.r 0),y7,y8],[.lst ((ds'.map û).map .d)])/\Dg ds' (done++zs)
 |[],_,k,ds,done,num,seed,x7,x8,hd,_,_,_,_=>⟨num,seed,x7,x8,ds,rfl,by rw[Ĺ];exact hd⟩
 |z::zs,hz,k,ds,done,num,seed,x7,x8,hd,hk,hlen,s0,s1=>by
  obtain ⟨z0,z1⟩:=hz z Ì;have hlen':k+(zs.length+1)<=100:=hlen;have next:∀(d num2 seed2:Int),0<=d->d<z->0<=seed2->seed2<=3000000000->qff [x0,x1,x2,some (.d (.int num)),some (.d (.bool w)),some (.d (.int seed)),some (.r 0),some (.d (.int (k:Nat))),some (.d (.int z))] [.lst ((ds.map û).map .d)]=some (.nx [x0,x1,x2,some (.d (.int num2)),some (.d (.bool w)),some (.d (.int seed2)),some (.r 0),some (.d (.int (k:Nat))),some (.d (.int z))],[.lst ((ds.map û).map .d++[.d (.int d)])])->
    ∃num' seed' y7 y8 ds',Dp.Ľ (bN [7,8]) qff (aY k ((z::zs).map .int)) [x0,x1,x2,some (.d (.int num)),some (.d (.bool w)),some (.d (.int seed)),some (.r 0),x7,x8] [.lst ((ds.map û).map .d)]=some (.nx [x0,x1,x2,some (.d (.int num')),some (.d (.bool w)),some (.d (.int seed')),some (.r 0),y7,y8],[.lst ((ds'.map û).map .d)])/\Dg ds' (done++z::zs):=λd num2 seed2 d0 d1 t0 t1 hb=>by
   obtain ⟨num',seed',y7,y8,ds',g1,g2⟩:=yiq (x0:=x0) (x1:=x1) (x2:=x2) (w:=w) zs (λz h=>hz z (Ê _ h)) (k+1) (ds++[d]) (done++[z]) num2 seed2 (some (.d (.int (k:Nat)))) (some (.d (.int z))) (hd.snoc d0 d1) (by rw[Ó,hk];rfl) (by omega) t0 t1;refine ⟨num',seed',y7,y8,ds',?_,by rw[ō]at g2;exact g2⟩;show ((qff [x0,x1,x2,some (.d (.int num)),some (.d (.bool w)),some (.d (.int seed)),some (.r 0),some (.d (.int (k:Nat))),some (.d (.int z))] [.lst ((ds.map û).map .d)]).bind λq=>bT q (Dp.Ľ (bN [7,8]) qff (aY (k+1) (zs.map .int))))=_;rw[hb];rw[ň,ň]at g1;exact g1
  have hlt:((ds.map û).map Dp.DV.d).length<most:=by rw[Ð,Ð];show ds.length<100000;omega
  cases hc:(w&&decide (0<num)) with
  |true=>
   refine next (num % z) (num / z) seed (aG _ (by omega)) (Α _ z0) s0 s1 (Ş (yh5 (S':=[.lst ((ds.map û).map .d)]) ?_ (Ş (qcy (yb6 rfl (ś (Dp.op_eq rfl rfl (mod_i z0)) rfl) rfl hlt)) (Ş (bI (Dp.op_eq rfl rfl (div_i z0 (by omega)))) rfl))) rfl);rw[Å,decide_eq_true_eq]at hc;obtain ⟨rfl,h0⟩:=hc;show some (decide ((0:Int)<num),_)=_;rw[decide_eq_true h0]
  |false=>
   have hb:(seed+104729*(((k:Nat):Int)+1)).natAbs<2 ^ 64:=by
    have:((k:Nat):Int)<=100:=by omega
    have:(0:Int)<=((k:Nat):Int):=by omega
    omega
   have m0:=aG ((seed+104729*(((k:Nat):Int)+1)) ^ 2) (show (2147483587:Int)≠0 by decide);have m1:=Α ((seed+104729*(((k:Nat):Int)+1)) ^ 2) (show (0:Int)<2147483587 by decide);refine next ((seed+104729*(((k:Nat):Int)+1)) ^ 2 % 2147483587 / 16 % z) num ((seed+104729*(((k:Nat):Int)+1)) ^ 2 % 2147483587) (aG _ (by omega)) (Α _ z0) m0 (by omega) (Ş (qf9 (S':=[.lst ((ds.map û).map .d)]) ?_ (Ş (bI (Dp.op_eq (Dp.op_eq (Dp.op_eq rfl (Dp.op_eq rfl (Dp.op_eq rfl rfl yj8) (mul_i rfl)) yj8) rfl (pow2_i hb)) rfl (mod_i (by decide)))) (Ş (qcy (yb6 rfl (ś (Dp.op_eq (Dp.op_eq rfl rfl (div_i (by decide) (by decide))) rfl (mod_i z0)) rfl) rfl hlt)) rfl))) rfl);cases w with
   |false=>rfl
   |true=>
    have:decide ((0:Int)<num)=false:=by simpa using hc
    show some (decide ((0:Int)<num),_)=_;rw[this]
theorem yj5{c t:Int}(t0:0<=t)(t1:t<=1000){zs:List Int}(hz:∀z∈zs,0<z/\z<=1000)(hl:zs.length<=100):∃ds,val ycx [.int c,.int t,.list (zs.map .int)]=some (.list (ds.map .int))/\Dg ds zs:=by
 have m0:=aG (if c<0 then -c else c) (show (2147483647:Int)≠0 by decide);have m1:=Α (if c<0 then -c else c) (show (0:Int)<2147483647 by decide);obtain ⟨num',seed',y7,y8,ds,g1,g2⟩:=yiq (x0:=some (.d (.int c))) (x1:=some (.d (.int t))) (x2:=some (.d (.list (zs.map .int)))) (w:=decide ((10:Int) ^ 18<=if c<0 then -c else c)) zs hz 0 [] [] (if c<0 then -c else c) ((if c<0 then -c else c) % 2147483647+7919*t) none none trivial rfl (by omega) (by omega) (by omega);refine ⟨ds,?_,g2⟩;refine dM (r:=.r 0) (S1:=[.lst ((ds.map û).map .d)]) (S2:=[.frz ((ds.map û).map .d)]) (ca rfl (Ş (bI (v:=.d (.int (if c<0 then -c else c))) rfl) (Ş (bI (v:=.d (.bool (decide ((10:Int) ^ 18<=if c<0 then -c else c)))) rfl) (Ş (bI (Dp.op_eq (Dp.op_eq rfl rfl (mod_i (by decide))) (Dp.op_eq rfl rfl (mul_i rfl)) yj8)) (Ş (bI (v:=.r 0) (S':=[.lst []]) rfl) (Ş (dj (es:=aY 0 (zs.map .int)) (S':=[.lst []]) ?_ g1) (b9 rfl))))))) ?_
 ·show ((Dp.datF _ _ _).map _)=_;rfl
 ·show ((datas ((ds.map û).map Dp.DV.d)).map _)=_;rw[eF];rfl
noncomputable def chkSK(a b c d:Nat):Bool:=match val qa3 [.list [.int a,.int b,.int (1+(c:Nat)),.int d]] with
 |some (.list l)=>!l.isEmpty&&decide (l.length<=10)&&l.all λk=>cQ.any λz=>deq k (.str z)
 |_=>false
theorem sk_tab:((õ 9).all λa=>(õ 5).all λb=>(õ 4).all λc=>(õ 3).all λd=>chkSK a b c d)=true:=by decide +kernel
noncomputable def kns:List Â:=[.none,.int 0,.int 1]
noncomputable abbrev drB:FS:=Ï (Ĥ (Dp.ψ (Dp.ò (isNF true (Ä 0))) (Dp.ò (ß ż (ß ap (Ä 3) (cF (.int 2))) (cF (.int 0))))) (Ï (ř (aA (Ä 2) (Ñ (ģ (Ñ (cF (.str "r")) (Ñ (Ä 0) Î))) Î))) ô) (Ï (Č (ß ap (ß cN (Ä 3) (cF (.int 2))) (cF (.int 2))) (Đ 0)) (Ï (ř (aA (Ä 2) (Ñ (ģ (Ñ (cF (.str "w")) (Ñ (Ä 0) Î))) Î))) ô))) ô
noncomputable abbrev hbB:FS:=Ï (Ĥ (Dp.ò (ß ż (ß á (Ä 2) (cF (.int 0))) (cF (.str "w")))) (Ï (Č (ß á (Ä 2) (cF (.int 1))) (Đ 0)) ô) ô) ô
theorem dr_w{kn D:Option Dp.DV}{n b:Int}{l:List Dp.DV}(hl:l.length<most)(ht:Dp.ψ (Dp.ò (isNF true (Ä 0))) (Dp.ò (ß ż (ß ap (Ä 3) (cF (.int 2))) (cF (.int 0)))) [kn,D,some (.r 0),some (.d (.int n))] [.lst l]=some (false,[.lst l]))
  (hb:ß ap (ß cN (Ä 3) (cF (.int 2))) (cF (.int 2)) [kn,D,some (.r 0),some (.d (.int n))] [.lst l]=some (.d (.int b),[.lst l])):drB [kn,D,some (.r 0),some (.d (.int n))] [.lst l]=some (.nx [some (.d (.int b)),D,some (.r 0),some (.d (.int n))],[.lst (l++[.d (.tuple [.str "w",.int b])])]):=by
 have h1:=yb6 (f:=Ä 2) (fa:=Ñ (ģ (Ñ (cF (.str "w")) (Ñ (Ä 0) Î))) Î) (ρ:=[some (.d (.int b)),D,some (.r 0),some (.d (.int n))]) (S:=[.lst l]) (i:=0) (es:=l) (d:=.d (.tuple [.str "w",.int b])) rfl rfl rfl hl;exact Ş (ρ':=[some (.d (.int b)),D,some (.r 0),some (.d (.int n))]) (S':=[.lst (l++[.d (.tuple [.str "w",.int b])])]) (qf9 ht (Ş (ρ':=[some (.d (.int b)),D,some (.r 0),some (.d (.int n))]) (S':=[.lst l]) (bI hb) (Ş (ρ':=[some (.d (.int b)),D,some (.r 0),some (.d (.int n))]) (S':=[.lst (l++[.d (.tuple [.str "w",.int b])])]) (qcy h1) rfl))) rfl
theorem dr_r{D:Option Dp.DV}{n b:Int}{l:List Dp.DV}(hl:l.length<most)(ht:Dp.ψ (Dp.ò (isNF true (Ä 0))) (Dp.ò (ß ż (ß ap (Ä 3) (cF (.int 2))) (cF (.int 0)))) [some (.d (.int b)),D,some (.r 0),some (.d (.int n))] [.lst l]=some (true,[.lst l])) :
  drB [some (.d (.int b)),D,some (.r 0),some (.d (.int n))] [.lst l]=some (.nx [some (.d (.int b)),D,some (.r 0),some (.d (.int n))],[.lst (l++[.d (.tuple [.str "r",.int b])])]):=by
 have h1:=yb6 (f:=Ä 2) (fa:=Ñ (ģ (Ñ (cF (.str "r")) (Ñ (Ä 0) Î))) Î) (ρ:=[some (.d (.int b)),D,some (.r 0),some (.d (.int n))]) (S:=[.lst l]) (i:=0) (es:=l) (d:=.d (.tuple [.str "r",.int b])) rfl rfl rfl hl;exact Ş (ρ':=[some (.d (.int b)),D,some (.r 0),some (.d (.int n))]) (S':=[.lst (l++[.d (.tuple [.str "r",.int b])])]) (yh5 ht (Ş (ρ':=[some (.d (.int b)),D,some (.r 0),some (.d (.int n))]) (S':=[.lst (l++[.d (.tuple [.str "r",.int b])])]) (qcy h1) rfl)) rfl
theorem dr_body{kn:Â}(hk:kn∈kns){n:Nat}(hn:n<4){D:Option Dp.DV}{l:List Dp.DV}(hl:l.length<most):∃s kn',s∈stps/\kn'∈kns/\itm1 s=kn'/\drB [some (.d kn),D,some (.r 0),some (.d (.int (n:Nat)))] [.lst l]=some (.nx [some (.d kn'),D,some (.r 0),some (.d (.int (n:Nat)))],[.lst (l++[.d s])])/\
  ∀L,hbB [some (.d kn),L,some (.d s)] []=some (.nx [some (.d kn'),L,some (.d s)],[]):=by
 have w:∀b:Int,b=0\/b=1->Ŝ [.str "w",.int b]∈stps/\Ŝ [.str "r",.int b]∈stps/\û b∈kns:=λb h=>by rcases h with rfl|rfl<;>(refine ⟨?_,?_,?_⟩<;>first|(unfold stps;simp;done)|(unfold kns;simp;done))
 have:n=0\/n=1\/n=2\/n=3:=by omega
 unfold kns at hk;simp only[ñ,Ņ,or_false]at hk;rcases hk with rfl|rfl|rfl<;>rcases this with rfl|rfl|rfl|rfl <;>
  first
  |exact ⟨_,.int 0,(w 0 (.inl rfl)).1,(w 0 (.inl rfl)).2.2,rfl,dr_w hl rfl rfl,λL=>by kernel_rfl⟩
  |exact ⟨_,.int 1,(w 1 (.inr rfl)).1,(w 1 (.inr rfl)).2.2,rfl,dr_w hl rfl rfl,λL=>by kernel_rfl⟩
  |exact ⟨_,.int 0,(w 0 (.inl rfl)).2.1,(w 0 (.inl rfl)).2.2,rfl,dr_r hl rfl,λL=>by kernel_rfl⟩
  |exact ⟨_,.int 1,(w 1 (.inr rfl)).2.1,(w 1 (.inr rfl)).2.2,rfl,dr_r hl rfl,λL=>by kernel_rfl⟩
theorem yh7{D:Option Dp.DV}:∀(ns:List Nat),(∀n∈ns,n<4)->∀kn∈kns,∀(x:Option Dp.DV) (acc:List Â),acc.length+ns.length<=1000->∃x' ss,Dp.Ľ (Đ 3) drB (ns.map λn:Nat=>.d (.int n)) [some (.d kn),D,some (.r 0),x] [.lst (acc.map .d)]=some (.nx [some (.d (cJ kn ss)),D,some (.r 0),x'],[.lst ((acc++ss).map .d)])/\
  ss.length=ns.length/\(∀s∈ss,s∈stps)/\cJ kn ss∈kns/\∀L x2,∃x2',Dp.Ľ (Đ 2) hbB (ss.map .d) [some (.d kn),L,x2] []=some (.nx [some (.d (cJ kn ss)),L,x2'],[])
 |[],_,kn,hk,x,acc,_=>⟨x,[],(by rw[Ĺ];rfl),rfl,(λs h=>nomatch h),hk,λL x2=>⟨x2,rfl⟩⟩
 |n::ns,hn,kn,hk,x,acc,hl=>by
  have hl':acc.length+(ns.length+1)<=1000:=hl;obtain ⟨s,kn',h1,h2,h3,h4,h5⟩:=dr_body hk (hn n Ì) (D:=D) (l:=acc.map .d) (by rw[Ð];show acc.length<100000;omega);obtain ⟨x',ss,g1,g2,g3,g4,g5⟩:=yh7 (D:=D) ns (λm hm=>hn m (Ê _ hm)) kn' h2 (some (.d (.int (n:Nat)))) (acc++[s]) (by rw[Ó];show acc.length+1+ns.length<=1000;omega);subst h3;refine ⟨x',s::ss,?_,by rw[Ė,Ė,g2],λq hq=>?_,g4,λL x2=>?_⟩
  ·show ((drB [some (.d kn),D,some (.r 0),some (.d (.int (n:Nat)))] [.lst (acc.map .d)]).bind _)=_;rw[h4];rw[ō,ň]at g1;exact g1
  ·rcases ñ.mp hq with rfl|hq
   ·exact h1
   ·exact g3 q hq
  ·obtain ⟨x2',g⟩:=g5 L (some (.d s));refine ⟨x2',?_⟩;show ((hbB [some (.d kn),L,some (.d s)] []).bind _)=_;rw[h5];exact g
theorem dr_ok{kn:Â}(hk:kn∈kns){a b c d e f:Nat}(ha:a<2)(hb:b<4)(hc:c<4)(hd:d<4)(he:e<4)(hf:f<4):∃o ss,val yb5 [kn,.list [.int a,.int b,.int c,.int d,.int e,.int f]]=some (.tuple [o,.list ss])/\o∈ords/\ss.length<=4/\(∀s∈ss,s∈stps)/\cJ kn ss∈kns/\val ya6 [kn,.list ss]=some (cJ kn ss):=by
 have hn:∀n∈[c,d,e,f].take (b+1),n<4:=λn h=>by
  have:=List.mem_of_mem_take h;simp only[ñ,Ņ,or_false]at this;rcases this with rfl|rfl|rfl|rfl<;>assumption
 obtain ⟨x',ss,g1,g2,g3,g4,g5⟩:=yh7 (D:=some (.d (.list [.int a,.int b,.int c,.int d,.int e,.int f]))) ([c,d,e,f].take (b+1)) hn kn hk none [] (by rw[aN];show 0+min (b+1) 4<=1000;omega);have hs:Dp.Ų (b5 (Ä 1) (η (cF (.int 2))) (η (ß ł (cF (.int 3)) (ß á (Ä 1) (cF (.int 1)))))) [some (.d kn),some (.d (.list [.int a,.int b,.int c,.int d,.int e,.int f])),some (.r 0),none] [.lst []]=some (([c,d,e,f].take (b+1)).map λn:Nat=>.d (.int n),[.lst []]):=by
  have:b=0\/b=1\/b=2\/b=3:=by omega
  rcases this with rfl|rfl|rfl|rfl<;>rfl
 have ho:∃o,o∈ords/\ß á (ĵ (Ñ (cF (.str "up")) (Ñ (cF (.str "down")) Î))) (ß á (Ä 1) (cF (.int 0))) [some (.d (cJ kn ss)),some (.d (.list [.int a,.int b,.int c,.int d,.int e,.int f])),some (.r 0),x'] [.lst (ss.map .d)]=some (.d o,[.lst (ss.map .d)]):=by
  have:a=0\/a=1:=by omega
  rcases this with rfl|rfl
  ·exact ⟨.str "up",by unfold ords;simp,rfl⟩
  ·exact ⟨.str "down",by unfold ords;simp,rfl⟩
 obtain ⟨o,o1,o2⟩:=ho;refine ⟨o,ss,?_,o1,by rw[g2,aN];show min (b+1) 4<=4;omega,g3,g4,?_⟩
 ·have ht:ģ (Ñ (ß á (ĵ (Ñ (cF (.str "up")) (Ñ (cF (.str "down")) Î))) (ß á (Ä 1) (cF (.int 0)))) (Ñ (Ä 2) Î)) [some (.d (cJ kn ss)),some (.d (.list [.int a,.int b,.int c,.int d,.int e,.int f])),some (.r 0),x'] [.lst (ss.map .d)]=some (.d (.tuple [o,.list ss]),[.frz (ss.map .d)]):=by
   unfold ģ;rw[ś o2 (ś (v:=.r 0) rfl rfl)];show ((d8 [.d o,.r 0] [.lst (ss.map .d)]).bind _)=_;have:d8 [.d o,.r 0] [.lst (ss.map .d)]=some ([o,.list ss],[.frz (ss.map .d)]):=by
    show ((((datas (ss.map Dp.DV.d)).map λds=>(Φ ds,[OD.frz (ss.map Dp.DV.d)])).bind _).bind _)=_;rw[eF];rfl
   rw[this];rfl
  exact dM (r:=.d (.tuple [o,.list ss])) (ca rfl (Ş (bI (v:=.r 0) (S':=[.lst []]) rfl) (Ş (dj hs g1) (b9 (eE ht))))) rfl
 ·obtain ⟨x2',g⟩:=g5 (some (.d (.list ss))) none;exact dM (r:=.d (cJ kn ss)) (ca rfl (Ş (dj (es:=ss.map .d) (S':=[]) rfl g) (b9 rfl))) rfl
theorem ne_tab:(ords.all λo=>(upto stps 4).all λss=>eK (.tuple [o,.list ss])&&PyData.canLay0 (.tuple [o,.list ss])&&ì (.tuple [o,.list ss]) (.tuple [o,.list ss]))=true:=by decide +kernel
theorem ne_el{o:Â}(ho:o∈ords){ss:List Â}(h4:ss.length<=4)(hss:∀s∈ss,s∈stps)(S:OS):d7 (.d (.tuple [o,.list ss])) (.d (.tuple [o,.list ss])) S=some (.d (.bool false),S):=by
 have:=Û.mp (Û.mp ne_tab o ho) ss (qbu h4 hss);rw[Å,Å]at this;obtain ⟨⟨h1,h2⟩,h3⟩:=this;show (if (eK _&&PyData.canLay0 _)=true then some (Dp.DV.d (.bool (xor true (ì _ _))),S) else none)=_;rw[if_pos (by rw[h1,h2];rfl),h3];rfl
theorem ls_led{o:Â}(ho:o∈ords){ss:List Â}(hss:∀s∈ss,s∈stps):∀{hl:List (Int×Â)}{ls:List (List Â)},LsOk hl ls->∃ls',bt o ss hl ls=ls'.map .tuple/\LsOk hl ls'
 |[],[],_=>⟨[],rfl,trivial⟩
 |e::hl,l::ls,⟨p1,p2,p3,p4⟩=>by
  obtain ⟨ls',g1,g2⟩:=ls_led ho hss p4;have hr:∀c∈aQ e.1,Res e.1 (ļ e.2 c (prs e.1 o ss)):=λc hc=>(yf5 p1 p2 hss ho hc).2;exact ⟨bd e.1 e.2 o ss l::ls',congrArg (_ :: ·) g1,p1,p2,(yjs p2 (yii p2 p3 hr)).2,g2⟩
 |[],_::_,h=>h.elim
 |_::_,[],h=>h.elim
theorem hs_12:(hs.all λe=>decide (e.1=1)||decide (e.1=2))=true:=by decide +kernel
theorem hs_n{e:Int×Â}(h:e∈hs):e.1=1\/e.1=2:=by
 have:=Û.mp hs_12 e h
 simpa using this
theorem frs_in{e:Int×Â}(h:e∈hs):InL e.1 (bK e.1 e.2):=by
 obtain ⟨n,d⟩:=e;have hi:([lit n d 1,.dt []]:OS)[0]?=some (lit n d 1):=rfl;obtain ⟨_,_,_,_,_,q⟩:=ye3 h hi rfl;exact q
theorem yjn:∀{hl:List (Int×Â)},(∀e∈hl,e∈hs)->∃ls,bF hl=ls.map .tuple/\LsOk hl ls
 |[],_=>⟨[],rfl,trivial⟩
 |e::hl,h=>by
  obtain ⟨ls,g1,g2⟩:=yjn (hl:=hl) λe he=>h e (Ê _ he);have he:=h e Ì;exact ⟨bK e.1 e.2::ls,congrArg (_ :: ·) g1,he,hs_n he,frs_in he,g2⟩
theorem bits_gd{n:Int}{c:Â}(h:c∈aQ n):Gd 2 c:=by
 unfold aQ at h;split at h<;>simp only[ñ,Ņ,or_false]at h
 ·rcases h with rfl|rfl<;>exact .tup _ _ (by decide) λx hx=>by
   simp only[ñ,Ņ,or_false]at hx;subst hx;exact .int _ _
 ·rcases h with rfl|rfl|rfl|rfl<;>exact .tup _ _ (by decide) λx hx=>by
   simp only[ñ,Ņ,or_false]at hx;rcases hx with rfl|rfl<;>exact .int _ _
theorem ls_gd:∀{hl:List (Int×Â)}{ls:List (List Â)},LsOk hl ls->∀l∈ls,Gd 3 (.tuple l)
 |[],[],_,l,h=>nomatch h
 |e::hl,l::ls,⟨_,_,p3,p4⟩,x,h=>by
  rcases ñ.mp h with rfl|h
  ·exact .tup _ _ (Ğ p3.1 (by decide)) λy hy=>bits_gd (p3.2 y hy)
  ·exact ls_gd p4 x h
 |[],_::_,h,_,_=>h.elim
 |_::_,[],h,_,_=>h.elim
theorem ls_len:∀{hl:List (Int×Â)}{ls:List (List Â)},LsOk hl ls->ls.length=hl.length
 |[],[],_=>rfl
 |_::hl,_::ls,⟨_,_,_,p4⟩=>congrArg (· + 1) (ls_len p4)
 |[],_::_,h=>h.elim
 |_::_,[],h=>h.elim
theorem st_gd{hl:List (Int×Â)}{ls:List (List Â)}(h:LsOk hl ls)(hl5:hl.length<=1000){kn:Â}(hk:kn∈kns):Gd 5 (.tuple [kn,.tuple (ls.map .tuple)]):=by
 refine .tup _ _ (by show 2<=1000;decide) λx hx=>?_;simp only[ñ,Ņ,or_false]at hx;rcases hx with rfl|rfl
 ·unfold kns at hk;simp only[ñ,Ņ,or_false]at hk;rcases hk with rfl|rfl|rfl
  ·exact .non _
  ·exact .int _ _
  ·exact .int _ _
 ·refine .tup _ _ (by rw[Ð,ls_len h];exact hl5) λy hy=>?_;obtain ⟨l,hl',rfl⟩:=Ō.mp hy;exact ls_gd h l hl'
theorem ix_l{l:List Â}{k:Nat}{x:Â}{S:OS}(h:l[k]?=some x):á (.d (.list l)) (.d (.int (k:Nat))) S=some (.d x,S):=by
 have hl:=(É.mp h).1;have h1:L2.atI (l.map Dp.DV.d) (k:Int)=some (.d x):=by
  unfold L2.atI;have:eL (l.map Dp.DV.d).length (k:Int)=some k:=by
   unfold eL;rw[Ð];simp;omega
  rw[this];simp[h]
 show (((L2.atI (l.map Dp.DV.d) (k:Int)).map λe=>(e,S)).or _)=_;rw[h1];rfl
theorem sqD_l{l:List Â}{S:OS}:cA (.d (.list l)) S=some (false,l):=by
 show ((datas (l.map Dp.DV.d)).map λds=>(false,ds))=_;rw[eF];rfl
theorem lst_l{l:List Â}{S:OS}:bX [.d (.list l)] S=some (.d (.list l),S):=by
 show ((cA (.d (.list l)) S).map _)=_;rw[sqD_l];rfl
theorem sl_l{f:FE}{fl fh:FO}{ρ:Dp.DEnv}{S:OS}{l:List Â}{a b:Nat}(h1:f ρ S=some (.d (.list l),S))(h2:fl ρ S=some (some (a:Int),S))(h3:fh ρ S=some (some (b:Int),S))(ha:a<=l.length)(hb:b<=l.length):b5 f fl fh ρ S=some (.d (.list ((l.drop a).take (b-a))),S):=by
 unfold b5;rw[h1];show ((fl ρ S).bind _)=_;rw[h2];show ((fh ρ S).bind _)=_;rw[h3];show ((cA (.d (.list l)) S).bind _)=_;rw[sqD_l];show some (Dp.DV.d (.list (Dp.dh l (some (a:Int)) (some (b:Int)))),S)=_;unfold Dp.dh;rw[HT.sIx_nat,HT.sIx_nat,Nat.min_eq_left ha,Nat.min_eq_left hb]
noncomputable def zs41:List Int:=[9,5,4,3,6]++(Ă 6 ([2,4,4,4,4,4]:List Int)).flatten
theorem Dg.drop:∀{ds zs:List Int} (n:Nat),Dg ds zs->Dg (ds.drop n) (zs.drop n)
 |_,_,0,h=>h
 |[],[],_+1,_=>trivial
 |_::ds,_::zs,n+1,⟨_,_,c⟩=>Dg.drop (ds:=ds) (zs:=zs) n c
 |[],_::_,_+1,h=>h.elim
 |_::_,[],_+1,h=>h.elim
theorem Dg.take:∀{ds zs:List Int} (n:Nat),Dg ds zs->Dg (ds.take n) (zs.take n)
 |_,_,0,_=>trivial
 |[],[],_+1,_=>trivial
 |_::ds,_::zs,n+1,⟨a,b,c⟩=>⟨a,b,c.take n⟩
 |[],_::_,_+1,h=>h.elim
 |_::_,[],_+1,h=>h.elim
theorem Dg.len:∀{ds zs:List Int},Dg ds zs->ds.length=zs.length
 |[],[],_=>rfl
 |_::_,_::_,⟨_,_,c⟩=>congrArg (· + 1) c.len
 |[],_::_,h=>h.elim
 |_::_,[],h=>h.elim
theorem Dg.get:∀{ds zs:List Int}{i:Nat}{z:Int},Dg ds zs->zs[i]?=some z->∃d:Nat,(ds.map û)[i]?=some (.int (d:Nat))/\(d:Int)<z
 |[],[],i,z,_,h=>by simp at h
 |d::ds,z::zs,0,_,⟨a,b,c⟩,h=>by
  cases h;exact ⟨d.toNat,by show some (û d)=_;rw[aI a],by rw[aI a];exact b⟩
 |_::ds,_::zs,i+1,z,⟨a,b,c⟩,h=>c.get (i:=i) (by simpa using h)
 |[],_::_,_,_,h,_=>h.elim
 |_::_,[],_,_,h,_=>h.elim
theorem Dg.nat:∀{ds zs:List Int},Dg ds zs->∃ns:List Nat,ds=ns.map λn:Nat=>(n:Int)
 |[],[],_=>⟨[],rfl⟩
 |d::ds,_::zs,⟨a,_,c⟩=>by
  obtain ⟨ns,e⟩:=c.nat;exact ⟨d.toNat::ns,by rw[þ,<-e,aI a]⟩
 |[],_::_,h=>h.elim
 |_::_,[],h=>h.elim
theorem six_ok{ds:List Int}(h:Dg ds zs41){k:Nat}(hk:k<6):∃a b c d e f:Nat,((ds.map û).drop (5+6*k)).take 6=[.int a,.int b,.int c,.int d,.int e,.int f]/\a<2/\b<4/\c<4/\d<4/\e<4/\f<4:=by
 have hz:∀k,k<6->(zs41.drop (5+6*k)).take 6=[2,4,4,4,4,4]:=by decide
 have g:=(h.drop (5+6*k)).take 6;rw[hz k hk]at g;rw[<-List.map_drop,<-map_take];obtain ⟨ns,e⟩:=g.nat;rw[e]at g ⊢
 match ns,g with
 |[a,b,c,d,e,f],⟨_,h1,_,h2,_,h3,_,h4,_,h5,_,h6,_⟩=>exact ⟨a,b,c,d,e,f,rfl,ofNat_lt.mp h1,ofNat_lt.mp h2,ofNat_lt.mp h3,ofNat_lt.mp h4,ofNat_lt.mp h5,ofNat_lt.mp h6⟩
theorem sk_ok{a b c d:Nat}(ha:a<9)(hb:b<5)(hc:c<4)(hd:d<3):∃ks,val qa3 [.list [.int a,.int b,.int (1+(c:Nat)),.int d]]=some (bD ks)/\ks≠[]/\ks.length<=10/\∀k∈ks,k∈cQ:=by
 have r:∀{n m:Nat},n<m->n∈õ m:=λh=>mem_range.mpr h;have q:=Û.mp (Û.mp (Û.mp (Û.mp sk_tab a (r ha)) b (r hb)) c (r hc)) d (r hd);unfold chkSK at q;split at q
 ·rename_i l e
  simp only[Å,Ŕ,decide_eq_true_eq]at q;obtain ⟨⟨q1,q2⟩,q3⟩:=q;have:∀l:List Â,(l.all λk=>cQ.any λz=>deq k (.str z))=true->∃ks:List Str,l=ks.map .str/\∀k∈ks,k∈cQ:=λl=>by
   induction l with
   |nil=>exact λ_=>⟨[],rfl,λk h=>nomatch h⟩
   |cons x l ih=>
    intro h;rw[Ĩ,Å]at h;obtain ⟨ks,e1,e2⟩:=ih h.2;obtain ⟨z,hz,e3⟩:=any_eq_true.mp h.1;exact ⟨z::ks,by rw[ee e3,e1];rfl,λk hk=>(ñ.mp hk).elim (λh=>h ▸ hz) (e2 k)⟩
  obtain ⟨ks,rfl,e2⟩:=this l q3;exact ⟨ks,e,λz=>(by rw[z]at q1;cases q1),by simpa using q2,e2⟩
 ·cases q
noncomputable abbrev rtBody:FS:=((Ï (Č (č yb5 (Ñ (ß á (Ä 4) (cF (.int 0))) (Ñ (b5 (Ä 2) (η (ß ł (cF (.int 5)) (ß bo (cF (.int 6)) (Ä 5)))) (η (ß ł (cF (.int 11)) (ß bo (cF (.int 6)) (Ä 5))))) Î))) (Đ 6)) (Ï (Č (ģ (Ñ (ß á (Ä 6) (cF (.int 0))) (Ñ (č bX (Ñ (ß á (Ä 6) (cF (.int 1))) Î)) Î))) (Đ 7)) (Ï (Č (č qdl (Ñ (Ä 3) (Ñ (Ä 4) (Ñ (Ä 6) Î)))) (Đ 8)) (Ï (Č (č ybv (Ñ (č bX (Ñ (Ä 3) Î)) (Ñ (Ä 4) (Ñ (Ä 7) Î)))) (Đ 9)) (Ï (Ĥ (Dp.orF (Dp.χ (Dp.ò (č yan (Ñ (Ä 9) (Ñ (Ä 8) Î))))) (Dp.ò (ß d7 (Ä 7) (Ä 6)))) ((Ï (Ć (cF (.bool false))) ô)) ô) (Ï (Ĥ (Dp.χ (Dp.ò (č yan (Ñ (č ya5 (Ñ (Ä 3) Î)) (Ñ (č yaq (Ñ (Ä 3) Î)) Î))))) ((Ï (Ć (cF (.bool false))) ô)) ô) (Ï (Ĥ (Dp.χ (Dp.ò (č yan (Ñ (č ybv (Ñ (č bX (Ñ (Ä 3) Î)) (Ñ (Ä 4) (Ñ (Ä 7) Î)))) (Ñ (Ä 8) Î))))) ((Ï (Ć (cF (.bool false))) ô)) ô) (Ï (Č (Ä 9) (Đ 4)) ô)))))))))
theorem yft{ft:FT}{f:FS}{ρ:Dp.DEnv}{S:OS}(h:ft ρ S=some (false,S)):Ĥ ft f ô ρ S=some (.nx ρ,S):=qf9 h rfl
theorem yix{e:FE}{ρ:Dp.DEnv}{S:OS}(h:e ρ S=some (.d (.bool true),S)):Dp.χ (Dp.ò e) ρ S=some (false,S):=by
 unfold Dp.χ;rw[yf4 h];rfl
theorem qgs{fa:FA}{ρ:Dp.DEnv}{S:OS}{d:Â}(h:fa ρ S=some ([.d d,.d d],S))(g:Gd 5 d):č yan fa ρ S=some (.d (.bool true),S):=b6 h (qin 5 g S)
theorem round_ok{ks:List Str}(hk:∀k∈ks,k∈cQ)(hn:ks≠[])(hl:10*ks.length<=1000){ds:List Int}(hd:Dg ds zs41){x0 x1:Option Dp.DV}{k:Nat}(hk6:k<6){kn:Â}(hkn:kn∈kns){ls:List (List Â)}(hls:LsOk (hlOf ks) ls){x6 x7 x8 x9:Option Dp.DV} :
  ∃kn' ls' y6 y7 y8 y9,rtBody [x0,x1,some (.d (.list (ds.map .int))),some (.d (bD ks)),some (.d (.tuple [kn,.tuple (ls.map .tuple)])),some (.d (.int (k:Nat))),x6,x7,x8,x9] []=some (.nx [x0,x1,some (.d (.list (ds.map .int))),some (.d (bD ks)),some (.d (.tuple [kn',.tuple (ls'.map .tuple)])),some (.d (.int (k:Nat))),y6,y7,y8,y9],[])/\kn'∈kns/\LsOk (hlOf ks) ls':=by
 obtain ⟨a,b,c,d,e,f,six,ha,hb,hc,hd',he,hf⟩:=six_ok hd hk6;obtain ⟨o,ss,d1,d2,d3,d4,d5,d6⟩:=dr_ok hkn ha hb hc hd' he hf;have hlen:=yc4 hk;have h1000:(hlOf ks).length<=1000:=by omega
 obtain ⟨ls',g1,g2⟩:=ls_led d2 d4 hls;obtain ⟨S0,fd,ms,i1,I,_⟩:=yio hk hn hl;have lled:=lled_ok (ks:=bD ks) (all_ok hk hl) h1000 d2 d4 hls (kn:=kn);have led:=led_ok i1 I h1000 d2 d3 d4 hls d6;rw[g1]at lled led;have gd:=st_gd g2 h1000 d5;obtain ⟨lsF,f1,f2⟩:=yjn (yen hk);have gdF:=st_gd f2 h1000 (kn:=.none) (by unfold kns;simp);have hfst:=fst_ok hk hn hl;have hlfst:=qi9 hk hl;rw[f1]at hfst hlfst;have dl:ds.length=41:=hd.len;refine ⟨cJ kn ss,ls',some (.d (.tuple [o,.list ss])),some (.d (.tuple [o,.list ss])),some (.d (.tuple [cJ kn ss,.tuple (ls'.map .tuple)])),some (.d (.tuple [cJ kn ss,.tuple (ls'.map .tuple)])),?_,d5,g2⟩;have sl:b5 (Ä 2) (η (ß ł (cF (.int 5)) (ß bo (cF (.int 6)) (Ä 5)))) (η (ß ł (cF (.int 11)) (ß bo (cF (.int 6)) (Ä 5)))) [x0,x1,some (.d (.list (ds.map .int))),some (.d (bD ks)),some (.d (.tuple [kn,.tuple (ls.map .tuple)])),some (.d (.int (k:Nat))),x6,x7,x8,x9] []=some (.d (.list [.int a,.int b,.int c,.int d,.int e,.int f]),[]):=by
  rw[sl_l (l:=ds.map .int) (a:=5+6*k) (b:=11+6*k) rfl (by show some (some ((5:Int)+6*((k:Nat):Int)),_)=_;congr 3) (by show some (some ((11:Int)+6*((k:Nat):Int)),_)=_;congr 3) (by rw[Ð];omega) (by rw[Ð];omega),show 11+6*k-(5+6*k)=6 by omega,six]
 refine Ş (bI (bU (dd:=[kn,.list [.int a,.int b,.int c,.int d,.int e,.int f]]) (ś (v:=.d kn) rfl (ś sl rfl)) d1)) ?_;refine Ş (bI (yfh (dd:=[o,.list ss]) (ś (v:=.d o) rfl (ś (b6 (ś rfl rfl) lst_l) rfl)) (by show 2<=100000;decide))) ?_;refine Ş (bI (bU (dd:=[bD ks,.tuple [kn,.tuple (ls.map .tuple)],.tuple [o,.list ss]]) rfl lled)) ?_;have hled:∀(y8 y9:Option Dp.DV),č ybv (Ñ (č bX (Ñ (Ä 3) Î)) (Ñ (Ä 4) (Ñ (Ä 7) Î))) [x0,x1,some (.d (.list (ds.map .int))),some (.d (bD ks)),some (.d (.tuple [kn,.tuple (ls.map .tuple)])),some (.d (.int (k:Nat))),some (.d (.tuple [o,.list ss])),some (.d (.tuple [o,.list ss])),y8,y9] []=some (.d (.tuple [cJ kn ss,.tuple (ls'.map .tuple)]),[]):=λy8 y9=>
  bU (dd:=[bD ks,.tuple [kn,.tuple (ls.map .tuple)],.tuple [o,.list ss]]) (ś (b6 (ś rfl rfl) lst_l) rfl) led
 refine Ş (bI (hled _ _)) ?_;refine Ş (yft ?_) ?_
 ·show ((Dp.χ (Dp.ò (č yan (Ñ (Ä 9) (Ñ (Ä 8) Î)))) _ _).bind _)=_;rw[yix (qgs rfl gd)];exact yf4 (Dp.op_eq rfl rfl (ne_el d2 d3 d4 []))
 refine Ş (yft (yix (qgs (ś (bU (dd:=[bD ks]) rfl hfst) (ś (bU (dd:=[bD ks]) rfl hlfst) rfl)) gdF))) ?_;refine Ş (yft (yix (qgs (ś (hled _ _) (ś rfl rfl)) gd))) ?_;exact Ş (bI rfl) rfl
theorem lst_eq{fa:FA}{ρ:Dp.DEnv}{S S':OS}{dd:List Â}(h:fa ρ S=some (dd.map .d,S'))(hl:dd.length<=most):ĵ fa ρ S=some (.d (.list dd),S'):=by
 unfold ĵ;rw[h];show ((d8 (dd.map Dp.DV.d) S').bind _)=_;rw[fzA_d];show (if dd.length<=most then _ else none)=_;rw[if_pos hl]
theorem rng_eq{fa:FA}{ρ:Dp.DEnv}{S S':OS}{n:Nat}(h:fa ρ S=some ([.d (.int (n:Nat))],S'))(hl:n<=most):bz fa ρ S=some ((õ n).map λi=>.d (.int (i:Nat)),S'):=by
 unfold bz;rw[h];show (if 0<=((n:Nat):Int)/\((n:Nat):Int)<=most then _ else none)=_;rw[if_pos ⟨by omega,Int.ofNat_le.mpr hl⟩];rfl
noncomputable abbrev szF:FE:=(ß ł (ĵ (Ñ (cF (.int 9)) (Ñ (cF (.int 5)) (Ñ (cF (.int 4)) (Ñ (cF (.int 3)) (Ñ (cF (.int 6)) Î)))))) (ß bo (ß ł (ĵ (Ñ (cF (.int 2)) (Ñ (cF (.int 4)) Î))) (ß bo (ĵ (Ñ (cF (.int 4)) Î)) (cF (.int 4)))) (cF (.int 6))))
theorem sz_eq(ρ:Dp.DEnv):szF ρ []=some (.d (.list (zs41.map .int)),[]):=by kernel_rfl
theorem zs_ok:∀z∈zs41,0<z/\z<=1000:=by decide +kernel
theorem right_ok{c t:Int}(t0:0<=t)(t1:t<=1000):val yb2 [.int c,.int t]=some (.bool true):=by
 obtain ⟨ds,e1,hd⟩:=yj5 (c:=c) t0 t1 (zs:=zs41) zs_ok (by decide +kernel);obtain ⟨a,ia,ha⟩:=hd.get (i:=0) (z:=9) rfl;obtain ⟨b,ib,hb⟩:=hd.get (i:=1) (z:=5) rfl;obtain ⟨g,ig,hg⟩:=hd.get (i:=2) (z:=4) rfl;obtain ⟨d,id_,hd'⟩:=hd.get (i:=3) (z:=3) rfl;obtain ⟨e,ie,he⟩:=hd.get (i:=4) (z:=6) rfl;obtain ⟨ks,e2,hn,hl10,hk⟩:=sk_ok (a:=a) (b:=b) (c:=g) (d:=d) (by omega) (by omega) (by omega) (by omega);have hl:10*ks.length<=1000:=by omega
 have hlen:=yc4 hk;have h1000:(hlOf ks).length<=1000:=by omega
 obtain ⟨lsF,f1,f2⟩:=yjn (yen hk);have gdF:=st_gd f2 h1000 (kn:=.none) (by unfold kns;simp);have hfst:=fst_ok hk hn hl;have hlfst:=qi9 hk hl;rw[f1]at hfst hlfst;have loop:=yha (tg:=Đ 5) (f:=rtBody) (R:=λ_ _=>False) ((õ (1+e)).map λi=>Dp.DV.d (.int (i:Nat))) (λ_ ρ S=>S=[]/\∃kn ls x5 x6 x7 x8 x9,ρ=[some (.d (.int c)),some (.d (.int t)),some (.d (.list (ds.map .int))),some (.d (bD ks)),some (.d (.tuple [kn,.tuple (ls.map .tuple)])),x5,x6,x7,x8,x9]/\kn∈kns/\LsOk (hlOf ks) ls)
  (ρ:=[some (.d (.int c)),some (.d (.int t)),some (.d (.list (ds.map .int))),some (.d (bD ks)),some (.d (.tuple [.none,.tuple (lsF.map .tuple)])),none,none,none,none,none]) (S:=[]) ⟨rfl,_,lsF,none,none,none,none,none,rfl,by unfold kns;simp,f2⟩ λk x ρ S hx ⟨hS,kn,ls,x5,x6,x7,x8,x9,hρ,hkn,hls⟩=>by
   subst hS hρ;rw[Ĉ]at hx;obtain ⟨k',hk',rfl⟩:=Á.mp hx;have hlt:=(É.mp hk').1;rw[π]at hlt;have hkk:k'=k:=by
    rw[List.getElem?_range hlt]at hk';cases hk';rfl
   subst hkk;obtain ⟨kn',ls',y6,y7,y8,y9,r1,r2,r3⟩:=round_ok hk hn hl hd (x0:=some (.d (.int c))) (x1:=some (.d (.int t))) (k:=k') (by omega) hkn hls (x6:=x6) (x7:=x7) (x8:=x8) (x9:=x9);refine ⟨_,rfl,_,_,r1,λρ' e=>?_,λd e=>by cases e⟩;cases e;exact ⟨rfl,kn',ls',_,y6,y7,y8,y9,rfl,r2,r3⟩
 obtain ⟨o,S',l1,l2,l3⟩:=loop;cases o with
 |rt d=>exact (l3 d rfl).elim
 |nx ρ'=>
  obtain ⟨rfl,_⟩:=l2 ρ' rfl;refine dM (r:=.d (.bool true)) (S1:=[]) (S2:=[]) (ca rfl (Ş (bI (bU (dd:=[.int c,.int t,.list (zs41.map .int)]) (ś (v:=.d (.int c)) rfl (ś (v:=.d (.int t)) rfl (ś (sz_eq _) rfl))) e1)) ?_)) rfl;refine Ş (bI (bU (dd:=[.list [.int a,.int b,.int (1+(g:Nat)),.int d]]) (ś (lst_eq (dd:=[.int a,.int b,.int (1+(g:Nat)),.int d]) (ś (Dp.op_eq rfl rfl (ix_l ia)) (ś (Dp.op_eq rfl rfl (ix_l ib)) (ś (Dp.op_eq rfl (Dp.op_eq rfl rfl (ix_l ig)) yj8) (ś (Dp.op_eq rfl rfl (ix_l id_)) rfl)))) (by show 4<=100000;decide)) rfl) e2)) ?_;refine Ş (bI (bU (dd:=[bD ks]) (ś (b6 (ś rfl rfl) lst_l) rfl) hfst)) ?_;refine Ş (yft (yix (qgs (ś rfl (ś (bU (dd:=[bD ks]) rfl hlfst) rfl)) gdF))) ?_;refine Ş (dj (rng_eq (n:=1+e) (ś ((Dp.op_eq rfl (Dp.op_eq rfl rfl (ix_l ie)) yj8).trans (by rw[Int.natCast_add];rfl)) rfl) (by show 1+e<=100000;omega)) l1) ?_;exact b9 rfl
theorem enu_l{fa:FA}{ρ:Dp.DEnv}{S S':OS}{l:List Â}(h:fa ρ S=some ([.d (.list l)],S')):Dp.cZ fa ρ S=some (aY 0 l,S'):=by
 unfold Dp.cZ Dp.datF;rw[h];rfl
noncomputable abbrev lwB:FS:=Ï (Ĥ (Dp.χ (Dp.ò (č yb2 (Ñ (Ä 2) (Ñ (Ä 1) Î))))) (Ï (Ć (cF (.bool false))) ô) ô) ô
theorem yhb{x0:Option Dp.DV}{S:OS}:∀(cs:List Int) (k:Nat) (x1 x2:Option Dp.DV),k+cs.length<=1000->∃y1 y2,Dp.Ľ (bN [1,2]) lwB (aY k (cs.map .int)) [x0,x1,x2] S=some (.nx [x0,y1,y2],S)
 |[],_,x1,x2,_=>⟨x1,x2,rfl⟩
 |c::cs,k,x1,x2,h=>by
  have h':k+(cs.length+1)<=1000:=h;obtain ⟨y1,y2,g⟩:=yhb (x0:=x0) (S:=S) cs (k+1) (some (.d (.int (k:Nat)))) (some (.d (.int c))) (by omega);refine ⟨y1,y2,?_⟩;have body:lwB [x0,some (.d (.int (k:Nat))),some (.d (.int c))] S=some (.nx [x0,some (.d (.int (k:Nat))),some (.d (.int c))],S):=
   Ş (yft (yix (bU (dd:=[.int c,.int (k:Nat)]) rfl (right_ok (by omega) (by omega))))) rfl
  show ((lwB [x0,some (.d (.int (k:Nat))),some (.d (.int c))] S).bind _)=_;rw[body];exact g
theorem sq_scr{cs:List Int}:cA (.r 0) [cB cs]=some (false,cs.map .int):=by
 show ((datas ((cs.map û).map Dp.DV.d)).map λds=>(false,ds))=_;rw[eF];rfl
theorem law_ok(cs:List Int)(hl:cs.length<=63):∃S',F_law [.r 0] [cB cs]=some (.d (.bool true),S'):=by
 have hadd:ł (.r 0) (.d (.list [.int 5])) [cB cs]=some (.d (.list ((cs++[5]).map .int)),[cB cs]):=by
  have h2:bZ false (.r 0) (.d (.list [.int 5])) [cB cs]=some (.d (.list ((cs++[5]).map .int)),[cB cs]):=by
   unfold bZ;rw[sq_scr,sqD_l];show dG (cs.map .int++[.int 5]) (.list (cs.map .int++[.int 5])) [cB cs]=_;unfold dG;rw[if_pos (by rw[Ó,Ð];show cs.length+1<=100000;omega),ň];rfl
  show ((iG (λi j:Int=>i+j) (.r 0) (.d (.list [.int 5])) [cB cs]).or ((bZ false (.r 0) (.d (.list [.int 5])) [cB cs]).or (dZ (bZ true) fc (.r 0) (.d (.list [.int 5])) [cB cs])))=_;rw[show iG (λi j:Int=>i+j) (.r 0) (.d (.list [.int 5])) [cB cs]=none from rfl,æ,h2];rfl
 have hsl:b5 (ß ł (Ä 0) (ĵ (Ñ (cF (.int 5)) Î))) cX (η (cF (.int 12))) [some (.r 0),none,none] [cB cs]=some (.d (.list (((cs++[5]).take (min 12 (cs++[5]).length)).map .int)),[cB cs]):=by
  unfold b5;rw[Dp.op_eq (a:=.r 0) rfl rfl hadd];show ((cA (.d (.list ((cs++[5]).map .int))) [cB cs]).bind _)=_;rw[sqD_l];show some (Dp.DV.d (.list (Dp.dh ((cs++[5]).map .int) none (some ((12:Nat):Int)))),_)=_;unfold Dp.dh;rw[HT.sIx_none,HT.sIx_nat,List.drop_zero,Ð,Nat.sub_zero,map_take]
 obtain ⟨y1,y2,g⟩:=yhb (x0:=some (.r 0)) (S:=[cB cs]) ((cs++[5]).take (min 12 (cs++[5]).length)) 0 none none (by rw[aN];omega);refine ⟨_,(ydv rfl).trans (ca rfl (Ş (dj (es:=aY 0 (((cs++[5]).take (min 12 (cs++[5]).length)).map .int)) (S':=[cB cs]) ?_ g) (b9 rfl)))⟩;exact enu_l (ś hsl rfl)
end Mh
namespace Mh
open PySem L2 PyProof.Rows Dp
noncomputable def its0:List Dp.It:=[.f "is_whole" 5,.f "is_bit" 6,.f "is_one_of" 7,.f "held_behind" 8,.f "is_cell" 15,.f "is_part" 16,.f "has_word" 17,.f "cells_in" 18,.f "has_parts" 19,.f "is_harm" 20,.g "look_at_harms" 21 [] [("cells",0)] false,.g "cells_of" 22 [] [("cells",0)] false,.g "renamed" 23 [] [("parts",0)] false,.f "placed" 24,.f "little" 25,.f "choices_for" 26,.g "harms_on" 27 [] [("found",0),("longer",0)] false,.f "is_of_one_cell" 28,.f "stuck_bit" 30,.f "put" 31,.f "settle" 32,.f "harm_of_address" 33,.f "reached_cells" 34,.f "read_cell" 35,.g "read_at" 36 [] [("bits",0)] false,.f "is_slow" 37,.f "kept_bit" 38,.f "act_on_others" 39,.f "write_cell" 40,.f "write_at" 41,.g "deeds" 42 [] [("found",0)] false,.f "doings_of" 43,.g "all_contents" 44 [] [("found",0)] false,.g "stepped" 45 [] [("cells",0)] false,.m "Little" "__init__" "Little.__init__" 46 0 [] [("found",2)] false,.m "Little" "made_of" "Little.made_of" 46 1 [] [("cells",0)] false,.m "Little" "firsts" "Little.firsts" 46 2 [] [("made",2)] true,.m "Little" "done" "Little.done" 46 3 [] [] false,.m "Little" "gone_through" "Little.gone_through" 46 4 [] [] false,.m "Little" "gone_over" "Little.gone_over" 46 5 [] [] false,.g "little_memory" 47 [] [] true,.f "look_at_kind" 50,.f "harms_of" 51,.g "memories_of" 53 [] [("memories",0)] false,.m "Stands" "__init__" "Stands.__init__" 54 0 [] [("found",2)] false,.m "Stands" "first" "Stands.first" 54 1 [] [] false,.m "Stands" "list_behind" "Stands.list_behind" 54 2 [] [] false,.m "Stands" "behind" "Stands.behind" 54 3 [] [("lists",0),("setdefault",2)] false,.f "first_stand" 55,.f "led_to" 56,.g "_law_digits" 58 [] [("_law_found",0)] false,.f "_law_put" 59,.g "_law_write" 60 ["_law_harms","_law_held","_law_cell","_law_bit","_law_kept","_law_later","_law_harm"] [] false,.f "_law_look" 61,.g "_law_step" 62 ["_law_harms","_law_held","_law_address","_law_step_here","_law_own","_law_cells_here","_law_harm","_law_bits","_law_cell","_law_bit"] [("_law_bits",0)] false,.f "_law_first" 63,.g "_law_contents" 64 [] [("_law_found",0)] false,.f "_law_addresses" 65,.g "_law_harms_of" 66 [] [("_law_found",0)] false,.f "_law_cells" 67,.f "_law_all_harms" 68,.g "_law_first_stand" 69 [] [("_law_lists",0)] false,.f "_law_behind" 70,.g "_law_led" 71 [] [("_law_lists",0)] false,.f "_law_some_kinds" 74]
noncomputable def gA0:Gb:=(cy top g0 its0).getD g0
theorem hA0:(cy top g0 its0).isSome=true:=by kernel_rfl
theorem qhr:∀F,cDef (gA0.fn "_law_same" F) (top 75) ["_law_found","_law_due"] ["_law_found","_law_due"] []=some (yd6 F):=by intro F;kernel_rfl
noncomputable def gR0:Gb:=gA0.fn "_law_same" yan
noncomputable def its1:List Dp.It:=[.g "_law_drawn" 76 [] [("_law_steps",0)] false,.f "_law_right" 77]
noncomputable def gA1:Gb:=(cy top gR0 its1).getD gR0
theorem hA1:(cy top gR0 its1).isSome=true:=by kernel_rfl
theorem c_law:cDef gA1 (top 78) ["_law_script","_law_turn","_law_cell"] ["_law_script"] []=some B_law:=by kernel_rfl
set_option maxHeartbeats 0 in
theorem all_mk{l:W.OpenLaw}{w:ï}{K:Þ}{h:Heap}{mg:Str->Option Æ}{fa:Addr}(X:K.In h)(G:h.Ns ù mg)(hfa:mg "law"=some (.ref fa))
  (P0:AllP K top its0)
  (Q0:FnP K "_law_same" (top 75))
  (P1:AllP K top its1)
  (pL:FnP K "law" (top 78))
  (cs:CsP K g0.csts)
  (fl:FlP K g0.flds)
  (ts:TsP K g0.tabs)
  (zz:∀x∈blN,W.nsIn K ù x=some none)
  (tD:tupB K=true)
  (lD:lisB K=true) :
  ∃fd:ů,(∀(s:Ç) (v:Æ),BindsTo s fd ⟨[v],[]⟩ [("_law_script",v)])/\∀base:Heap,K.In base->base.Ns ù mg->FnOk l.prog w K mg base CX0 141 fa fd ["_law_script"] (Dp.sp_law K):=by
 obtain ⟨f,oc,od,an,sl,kV,dc,pm,cd,ct,a,lk,c,kp⟩:=pL;have e:=hfa.symm.trans (W.mg_of X G a);cases e;refine ⟨W.fnOf "law" "law" (dL (top 78)) (cR (top 78)) (bw (top 78)) .none kV dc pm an cd ct,λs v=>.of_eq rfl,λbase _ _=>?_⟩;let KC:Kc:=⟨K,l.prog,w,mg⟩;have e0:EnvG KC base 0 g0:=Dp.env_0 Dp.hk_no X G cs fl ts zz tD;have e1A:=Dp.all_ok X G P0 e0 (Dp.getD_of hA0);have e1R:EnvG KC base _ gR0:=(e1A.ups 5).fn (Dp.has_rec (K:=KC) (x:="_law_same") [] e1A (Dp.fnP_at X G Q0 rfl) qhr rfl (λ_=>rfl) 5);have e2A:=Dp.all_ok X G P1 e1R (Dp.getD_of hA1);exact (Dp.law_fn (K:=KC) [] e2A (qg9 lk c kp) c_law lD law_ok).mono (by decide +kernel)
theorem walk{l:W.OpenLaw}{q:Ü}{loose:List Str}{XP:(Str->Option Æ)->Heap->Prop}{YP:ï->Heap->Prop}{d:DefRec}{K:Params->Þ}(hn:l.most=some 63)(hdf:d.params.defaults=[])
  (hY:∀(w:ï) (h:Heap),YP w h->(K w.params).In h)
  (F:∀(w:ï) (mg:Str->Option Æ) (fa:Addr) (h:Heap),(K w.params).In h->h.Ns ù mg->mg d.name=some (.ref fa)->
   ∃fd:ů,(∀(s:Ç) (u:Æ),BindsTo s fd ⟨[u],[]⟩ [("_law_script",u)])/\∀base:Heap,(K w.params).In base->base.Ns ù mg->FnOk l.prog w (K w.params) mg base CX0 141 fa fd ["_law_script"] (Dp.sp_law (K w.params))) :
  W.WalkO q loose XP YP l.row.toRowW d [] (λf vs=>PySem.call f vs):=
 L2.walk_of (n:=63) (k:=141) (x:="_law_script") (CX:=λ_=>CX0) (sp:=λw=>Dp.sp_law (K w.params)) hn (by decide) hdf ⟨rfl,by decide,by decide,rfl⟩ hY F (λ_ _ a ns hl _ hS=>⟨a,ns,rfl,hS,hl,λ_=>rfl⟩) λ_ _ _ _ _ z=>z
end Mh
namespace PySem.W.Fast
def tw16449338434998530329:=0
def tw1513857370737566060:=0
def tw15036543274800333809:=0
def tw13357641181319050177:=0
def tw3274216387308319249:=0
def tw16397171582219748311:=PySem.Challenge.pw_marchmend_k38_stands_led_on
theorem te16397171582219748311:PySem.Challenge.pw_marchmend_k38_stands_led_on=tw16397171582219748311:=rfl
def tw9099642729157987041:=0
def tw4069114979971153691:=0
def tw9309489900584877831:=0
def tw16979753778095029286:=0
def tw16428957323353279607:=0
def tw6146240259955955474:=0
def tw465675509671651433:=0
def tw18346176953263570108:=0
def tw13418922175540431349:=0
def tw8595811332053630498:=0
def tw9617898997162492007:=0
def tw13686371036737380099:=0
def tw4723571632995537901:=0
def tw10201414739803375873:=0
def tw9550625086763128844:=0
def tw7873742437407990920:=0
def tw18267450827590382769:=0
def tw1248221318516056594:=0
def tw2460401017709530369:=0
def tw496471455489972468:=0
def tw4330278168770853926:=0
def tw7432219450535880839:=0
def tw5780706296200817177:=0
def tw10216927859099315017:=0
def tw3172442681734509827:=0
def tw5237657444329334685:=0
def tw16301823512551625536:=0
def tw9812743487288414709:=0
def tw12227565427125107535:=0
def tw10511471829559065704:=0
def tw13554494534030391214:=0
def tw16463810575697871724:=0
def tw1689108706677738647:=0
def tw12305877219350502155:=0
def tw5210488613642043964:=0
def tw7485294844764054606:=0
def tw2384184896112878500:=0
def tw13892937030049329410:=0
def tw15809784369338604680:=0
def tw1849487045067237427:=0
def tw1038350054611190914:=0
def tw16139292479034397630:=0
def tw7921371239687991478:=0
def tw14799187794752807772:=0
def tw9856968429053367750:=0
def tw17833953386999144958:=0
def tw7922567291961202408:=0
def tw563075294935152311:=0
def tw8257697894670052781:=0
def tw13627638524814566150:=0
def tw11423625263693923995:=0
def tw17006533400723360491:=0
def tw5189985273308528157:=0
def tw11108111015594980255:=0
def tw7457587506319744938:=0
def tw14159723632612698919:=0
def tw3791543712704391674:=0
def tw3982836559552071376:=0
def tw15422424448815749743:=0
def tw9980626210963860170:=0
def tw15748626577628478943:=0
def tw4133342060752609004:=0
def tw12751243638647079181:=0
def tw7825685276590555273:=0
def tw12841179924448518910:=0
def tw13552551005089825213:=0
def tw11251546669025987253:=0
def tw15702995981496293719:=0
def tw6556574377790226291:=0
def tw511772579826033901:=0
def tw13625199700209055472:=0
def tw11976083974714247833:=0
def tw13513621505868407393:=0
def tw12451013665661591755:=0
def tw17598778009052865506:=0
def tw9486732611388286181:=0
def tw7991524571634915905:=0
def tw4544997990782921055:=0
def tw7039834339686241032:=0
def tw2678039891268561880:=0
def tw13863555087099971019:=0
def tw2700602815238366481:=0
def tw3023786217302655220:=0
def tw11910617542759939321:=0
def tw12641448698472333771:=0
def tw13342921721311052300:=0
def tw18185373197439393367:=0
def tw12516332931349694016:=0
def tw11182123497002017346:=0
def tw9586466917316170375:=0
def tw5889088534557603972:=0
def tw7560966310598611148:=0
def tw9996952930378584655:=0
def tw18331102724062533063:=0
def tw6819847285055160614:=0
def tw10815863777337474691:=0
def tw4839564053230233134:=0
def tw6160455271388287151:=0
def tw4033888736727608044:=0
def tw1162598579382762165:=0
def tw9204401562473975263:=0
def tw1016168767582546537:=0
def tw8260033143521051515:=0
def tw2035966180257778733:=0
def tw17904898154581822050:=0
def tw9798870501037280232:=0
def tw11255676906333768973:=0
def tw1687708583247810789:=0
def tw4064043309358690552:=0
def tw7298680666232541753:=0
def tw14757699152882598353:=0
def tw2197524099111200434:=0
def tw4473768824874815765:=0
def tw5377448966117336128:=0
def tw12061354494150644698:=0
def tw17080723170388273975:=0
def tw14299257701894844072:=0
def tw1645731409931448366:=0
def tw7962299378003571166:=0
def tw4091966959527188039:=0
def tw501403935486123614:=0
def tw14481893141918304499:=0
def tw14646164265796394935:=0
def tw6480072320243400583:=0
def tw7027779796281290055:=0
def tw17933172053657271599:=0
def tw7551584149456171080:=0
def tw141363037804476253:=0
def tw7371873442140449328:=0
def tw14438987263829283745:=0
def tw970446596354864784:=0
def tw10398464186677323817:=0
def tw2548718751249629115:=0
def tw4033029101464346246:=0
def tw13217145512502405604:=0
def tw6539373081973342890:=0
def tw4124280342791126019:=0
def tw3870574299362039096:=0
def tw2988009393164372607:=0
def tw10573889129740566044:=0
def tw11730685483379452424:=0
def tw7309761575335700409:=0
def tw11292428304071612278:=0
def tw2420439440235689614:=0
def tw7159307668539366174:=0
def tw1939691838888338924:=0
def tw11451560416306524717:=0
def tw6969657312369505125:=0
def tw16521528797280083020:=0
def tw12296266232825207769:=0
def tw11064675868703119199:=0
def tw17405399942577397535:=0
def tw15898712490163479438:=0
def tw10547898112407892480:=0
def tw17566285439966419969:=0
def tw10294954888676409953:=0
def tw14938920435523235237:=0
def tw14049547252404168057:=0
def tw6085951274495912739:=0
def tw7978253636193226752:=0
def tw5891549936398217282:=0
def tw3249944688073193623:=0
def tw408765882244838017:=0
def tw6230739301932899124:=0
def tw18211009561507293326:=0
def tw741008464051494962:=0
def tw17678962414253843108:=0
def tw5652953936029916534:=0
def tw7493045898914169714:=0
def tw7361732587043373420:=0
def tw935217515166359495:=0
def tw12869237674014832875:=0
def tw3094714920491395777:=0
def tw12935234380626423559:=0
def tw18418059495906372793:=0
def tw14896416553230792348:=0
def tw7287267470058841914:=0
def tw2360999522144302376:=0
def tw2672971449842070854:=0
def tw3680474770067359792:=0
def tw9763078382847555668:=0
def tw3527057472845121162:=0
def tw12223707795189190972:=0
def tw1086547515267376153:=0
def tw2821595767965854616:=0
def tw1626244801442917431:=0
def tw10981451045812046640:=0
def tw10453336766460161035:=0
def tw9236526570410399525:=0
def tw5637781613466139887:=0
def tw13954742890548085833:=0
def tw144814530461215858:=0
def tw1640208534272504044:=0
def tw7996251785862635329:=0
def tw14065539018578256305:=0
def tw18298484302746618898:=0
def tw759690537650778135:=0
def tw422487500120322232:=0
def tw7528696479295636066:=0
def tw1084732119616122247:=0
def tw9750607435034937138:=0
def tw13855219394364941741:=0
def tw5963386846213242629:=0
def tw9875573116511425751:=0
def tw4489673516267490132:=0
def tw1334324606607427015:=0
def tw9457173834369331051:=0
def tw11540636586491579271:=0
def tw9196673847583935205:=0
def tw3555809790951778495:=0
def tw1997504824674577265:=0
def tw15143379444038520847:=0
def tw10998339369115499859:=0
def tw4870811263772699298:=0
def tw3272494088697473556:=0
def tw18187005210369656091:=0
def tw4836273971268139064:=0
def tw13813315965265278722:=0
def tw17353851859509598398:=0
def tw16256121189876207341:=0
def tw9829199010991456521:=0
def tw18043487770616507683:=0
def tw2190005628333465750:=0
def tw4052921162506545281:=0
def tw12707148940256857083:=0
def tw6566934842721781289:=0
def tw12751992281809512774:=0
def tw14770336012416583211:=0
def tw16993962973865875158:=0
def tw12848475249026022418:=0
def tw7256534634900519880:=0
def tw13869645979429040330:=0
def tw6114423742643988992:=0
def tw18092831225561895695:=0
def tw640244089899201689:=0
def tw241256810342614793:=0
def tw13893857450583205515:=0
def tw277354394657200471:=0
def tw17027375260097920304:=0
def tw10996930875524198455:=0
def tw4240288522685515785:=0
def tw16180315475327182116:=0
def tw7676842396222914181:=0
def tw4581021275691861660:=0
def tw5289428322531647839:=0
def tw8813391556373027011:=0
def tw4914053677030034686:=0
def tw2247382088662647801:=0
def tw11821436071500054433:=0
def tw3973098343482545652:=0
def tw16155587912517450672:=0
def tw15392414522569726419:=0
def tw16336260113121466158:=0
def tw6313009345731581683:=0
def tw6819995052692748440:=0
def tw3986588064929410150:=0
def tw8150158447335873964:=0
def tw198409885451079357:=0
def tw4023283341801301104:=0
def tw17037653747530070403:=0
def tw5377232536279863295:=0
def tw16561298802847028851:=0
def tw10599161492774358328:=0
def tw11994765136513349176:=0
def tw18090751611515599911:=0
def tw15357072456499121773:=0
def tw6782139540717068525:=0
def tw6888186863316265609:=0
def tw2059251902513856706:=0
def tw6179333066818101024:=0
def tw8686504322040041752:=0
def tw17576431449523954307:=0
def tw7982831232077800090:=0
def tw10283533435898078756:=0
def tw6189057968875714542:=0
def tw3755590690234756576:=0
def tw14290827740827753639:=0
def tw8595145534177382255:=0
def tw6934103505816917144:=0
def tw15082527591880877398:=0
def tw7934924099936632429:=0
def tw3825700393655312489:=0
def tw17173850318158716461:=0
def tw13433845799083512336:=0
def tw2362449916625176971:=0
def tw1781750384062837064:=0
def tw15500815730302057235:=0
def tw3319471408885301970:=0
def tw12341089270497702758:=0
def tw609116192893912976:=0
def tw10285646145742120723:=0
def tw16673343458953414563:=0
def tw5709769124080547033:=0
def tw10854165034121433210:=0
def tw6524837886720846762:=0
def tw3842486529766141969:=0
def tw1957357936164677080:=0
def tw4592181393689221116:=0
def tw14101966220106430670:=0
def tw16552972859374497892:=0
def tw9723569718480349025:=0
def tw9048843124611162284:=0
def tw13342784016174654664:=0
def tw11252470489199617649:=0
def tw11220860090400622028:=0
def tw4267578826855003626:=0
def tw3037844247325025697:=0
def tw11989403775646466057:=0
def tw170763685364135604:=0
def tw17884741478344971769:=0
def tw8098045405639546932:=0
def tw10100668374227501459:=0
def tw8508140989394862748:=0
def tw10197797948143326906:=0
def tw4090086760463595646:=0
def tw15769508950385618818:=0
def tw4474472327307701853:=0
def tw60927028855064521:=0
def tw9444644161158270599:=0
def tw10012136645996468782:=0
def tw18435082268935519422:=0
def tw10293646880392668202:=0
def tw11253072351454274736:=0
def tw1549547138489795745:=0
def tw12774296748964480987:=0
def tw2279969477623653320:=0
def tw14474913281260579124:=0
def tw8058347219819857120:=0
def tw8831746757061510771:=0
def tw17757778722630904457:=0
def tw6711248055447502612:=0
def tw12926105384273368364:=0
def tw237105815094442620:=0
def tw1360817464608263964:=0
def tw13837449059484900506:=0
def tw7049668113749187214:=0
def tw13711739898107705561:=0
end PySem.W.Fast
open PySem PySem.W PyProof.Rows
set_option maxRecDepth 100000 in
set_option maxHeartbeats 0 in
theorem PySem.Challenge.cw_marchmend_k38_stands_led_on_holds : PySem.Challenge.rw_marchmend_k38_stands_led_on.Holds := by
  w_on; o_law; k_head; (case hw=>w_witness2)
  k_fill
  refine Mh.walk (l:=PySem.Challenge.rw_marchmend_k38_stands_led_on) rfl rfl (fun w h Y=>PySem.W.kIn_of Y) ?F
  case F=>
    intro w mg fa h KX G hmg;refine' Mh.all_mk KX G hmg ?P0 ?Q0 ?P1 ?pL ?cs ?fl ?ts ?zz ?tD ?lD
    (case P0=>repeat (first | exact .nil | refine .g ⟨_,_,_,_,_,_,_,_,_,_,by k_is,by k_is,by k_is,by k_is⟩ ?_ | refine .m ⟨_,_,_,_,_,_,_,_,_,_,_,⟨by k_is,by k_is,by k_is,by k_is,by k_is⟩,by k_is,by k_is,by k_is,by k_is,by k_is,by k_is,by k_is⟩ ?_))
    (case Q0=>exact ⟨_,_,_,_,_,_,_,_,_,_,by k_is,by k_is,by k_is,by k_is⟩)
    (case P1=>repeat (first | exact .nil | refine .g ⟨_,_,_,_,_,_,_,_,_,_,by k_is,by k_is,by k_is,by k_is⟩ ?_ | refine .m ⟨_,_,_,_,_,_,_,_,_,_,_,⟨by k_is,by k_is,by k_is,by k_is,by k_is⟩,by k_is,by k_is,by k_is,by k_is,by k_is,by k_is,by k_is⟩ ?_))
    (case pL=>exact ⟨_,_,_,_,_,_,_,_,_,_,by k_is,by k_is,by k_is,by k_is⟩)
    (case cs=>repeat (first | exact .nil | refine .flat (by k_is) ⟨_,rfl⟩ rfl ?_ | refine .tup (by k_is) ⟨_,_,_,_,_,rfl,by k_is,Nat.le_of_ble_eq_true rfl,(by repeat (first | exact .nil | refine .cons ⟨_,rfl⟩ rfl ?_))⟩ ?_))
    (case fl=>repeat (first | exact .nil | refine .cons (by repeat (first | exact .nil | refine .cons ⟨by k_is,by k_is,by k_is,by k_is,by k_is⟩ (by k_is) ?_)) ?_))
    (case ts=>repeat (first | exact .nil | refine .cons (by k_is) (by rfl) (by k_is) (by repeat (first | exact .nil | refine .cons rfl ⟨_,_,_,_,_,rfl,by k_is,Nat.le_of_ble_eq_true rfl,(by repeat (first | exact .nil | refine .cons ⟨_,rfl⟩ rfl ?_))⟩ ?_)) (by decide) ?_))
    (case zz=>intro x hx; unfold Dp.blN at hx; simp only [List.mem_cons,List.not_mem_nil,or_false] at hx; rcases hx with rfl | rfl | rfl | rfl | rfl | rfl | rfl | rfl | rfl | rfl | rfl | rfl | rfl | rfl | rfl | rfl | rfl | rfl | rfl | rfl <;> k_is)
    (case tD|lD=>kernel_rfl)
#print axioms PySem.Challenge.cw_marchmend_k38_stands_led_on_holds
