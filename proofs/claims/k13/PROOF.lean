import PyProof.Rows.All
import Wide.All
import OpenK.AllK
import Wide.FinOn
import Lean
import PyProof.EqAt
import PyProof.EqKinds
import PyProof.TupleCall
import PyProof.StrLawsTight
import PyProof.Rows.StrJoin2
import PyProof.Rows.StrSplitJoin
import KE.KTab
import PyProof.ZipIter
import PyProof.Rows.TupIter
import PyProof.Rows.SortWalk
import PyProof.Rows.SortStr
import PyProof.ConsumeWalk
import KE.KRevSl
import KE.KTryMore
import PyProof.NsDelKeeps
import PyProof.NeKinds
import KE.KIntText
import PyProof.SetKind
import PyProof.SetRoads
import PyProof.Rows.SetFrom
import PyProof.CollectWalk
import PyProof.CollectIter
import PyProof.Rows.SortShell
import PyProof.Rows.MinMaxN
import KE.RegKTryMore
import PySem.Challenge.RW_marchmend_k13_no_memories
set_option Elab.async false
set_option linter.all false
set_option maxRecDepth 100000
namespace L2
open PySem PySem.Spec PyProof.Rows
abbrev Key := Sum Int Str
def keyIs : Key → Value → Bool
  | .inl k, v => Value.isInt k v
  | .inr x, v => Value.isStrOf x v
def keyH (w : World) : Key → Int
  | .inl k => hashInt k
  | .inr x => hashStr w x
theorem qa9 : ∀ {k : Key} {v : Value}, keyIs k v = true → (∃ i t, k = Sum.inl i ∧ v = Value.int i t) ∨ (∃ x t, k = Sum.inr x ∧ v = Value.str x t)
  | .inl i, v, h => by
    obtain ⟨t, e⟩ := Value.isInt_shape (k := i) (v := v) h
    exact .inl ⟨i, t, rfl, e⟩
  | .inr x, v, h => by
    obtain ⟨t, e⟩ := Value.isStrOf_shape (x := x) (v := v) h
    exact .inr ⟨x, t, rfl, e⟩
theorem key_ll (a b : Int) : decide ((Sum.inl a : Key) = Sum.inl b) = (a == b) := by
  by_cases e : a = b
  · subst e; simp
  · have h : ¬ (Sum.inl a : Key) = Sum.inl b := fun q => e (Sum.inl.inj q)
    rw [decide_eq_false h]
    exact (beq_eq_false_iff_ne.mpr e).symm
theorem key_rr (a b : Str) : decide ((Sum.inr a : Key) = Sum.inr b) = decide (a = b) := by
  by_cases e : a = b
  · subst e; simp
  · have h : ¬ (Sum.inr a : Key) = Sum.inr b := fun q => e (Sum.inr.inj q)
    rw [decide_eq_false h, decide_eq_false e]
theorem key_lr (a : Int) (b : Str) : decide ((Sum.inl a : Key) = Sum.inr b) = false := decide_eq_false (fun q => nomatch q)
theorem key_rl (a : Str) (b : Int) : decide ((Sum.inr a : Key) = Sum.inl b) = false := decide_eq_false (fun q => nomatch q)
def yje (prog : Program) (w : World) : PySem.KeyKind prog w Key where
  is := keyIs
  hash := keyH w
  inj := fun v a b ha hb => by
    rcases qa9 ha with ⟨i, t, rfl, rfl⟩ | ⟨x, t, rfl, rfl⟩
    · rcases qa9 hb with ⟨j, u, rfl, e⟩ | ⟨y, u, rfl, e⟩
      · injection e with e1 _; rw [e1]
      · exact nomatch e
    · rcases qa9 hb with ⟨j, u, rfl, e⟩ | ⟨y, u, rfl, e⟩
      · exact nomatch e
      · injection e with e1 _; rw [e1]
  byValue := fun k v h => by
    rcases qa9 h with ⟨i, t, rfl, rfl⟩ | ⟨x, t, rfl, rfl⟩ <;> rfl
  pyHash := fun hv h => by
    rcases qa9 hv with ⟨i, t, rfl, rfl⟩ | ⟨x, t, rfl, rfl⟩
    · exact wpAny_pyHash_int h
    · exact wpAny_pyHash_str h
  eqBool := fun hu hv h => by
    rcases qa9 hu with ⟨i, t, rfl, rfl⟩ | ⟨x, t, rfl, rfl⟩
    · rcases qa9 hv with ⟨j, u, rfl, rfl⟩ | ⟨y, u, rfl, rfl⟩
      · rw [key_ll] at h; exact wpAny_eqBool_int h
      · rw [key_lr] at h; exact SeqAt.EqAt.int_str i t y u _ _ _ _ h
    · rcases qa9 hv with ⟨j, u, rfl, rfl⟩ | ⟨y, u, rfl, rfl⟩
      · rw [key_rl] at h; exact SeqAt.EqAt.str_int x t j u _ _ _ _ h
      · rw [key_rr] at h; exact wpAny_eqBool_str h
  «strs» := fun k x t v h => by
    rcases qa9 h with ⟨i, u, rfl, e⟩ | ⟨y, u, rfl, e⟩
    · exact nomatch e
    · injection e with e1 _
      subst e1
      cases v <;> rfl
inductive V where
  | non | bl (b : Bool) | int (i : Int) | str (x : Str) | byt (b : Array UInt8) | flt (b : UInt64) | ref (a : Addr) | ty (n : String)
  deriving DecidableEq
def RelV : V → Value → Prop
  | .non, u => u = Value.none
  | .bl b, u => u = Value.bool b
  | .int i, u => ∃ t, u = Value.int i t
  | .str x, u => ∃ t, u = Value.str x t
  | .byt b, u => ∃ t, u = Value.bytes b t
  | .flt b, u => ∃ t, u = Value.float b t
  | .ref a, u => u = Value.ref a
  | .ty n, u => u = Value.type n
abbrev Vals : List V → List Value → Prop := Paired RelV
theorem Vals.length {xs : List V} {us : List Value} (r : Vals xs us) : xs.length = us.length := Paired.length r
theorem Vals.get : ∀ {xs : List V} {us : List Value} {i : Nat} {x : V}, Vals xs us → xs[i]? = some x → ∃ u, us[i]? = some u ∧ RelV x u
  | _, _, _, _, .nil, e => by simp at e
  | _, _, 0, _, .cons r _, e => by simp at e; subst e; exact ⟨_, rfl, r⟩
  | _, _, i + 1, x, .cons _ t, e => by
    obtain ⟨u, h1, h2⟩ := Vals.get (i := i) (x := x) t (by simpa using e)
    exact ⟨u, by simpa using h1, h2⟩
theorem Vals.set {x : V} {u : Value} (r : RelV x u) : ∀ {xs : List V} {us : List Value} (i : Nat), Vals xs us → Vals (xs.set i x) (us.set i u)
  | _, _, _, .nil => .nil
  | _, _, 0, .cons _ t => .cons r t
  | _, _, i + 1, .cons q t => .cons q (Vals.set r i t)
theorem Vals.append : ∀ {xs ys : List V} {us ws : List Value}, Vals xs us → Vals ys ws → Vals (xs ++ ys) (us ++ ws)
  | _, _, _, _, .nil, s => s
  | _, _, _, _, .cons r t, s => .cons r (Vals.append t s)
theorem Vals.take : ∀ {xs : List V} {us : List Value} (n : Nat), Vals xs us → Vals (xs.take n) (us.take n)
  | _, _, 0, _ => .nil
  | _, _, _ + 1, .nil => .nil
  | _, _, n + 1, .cons r t => .cons r (Vals.take n t)
theorem Vals.drop : ∀ {xs : List V} {us : List Value} (n : Nat), Vals xs us → Vals (xs.drop n) (us.drop n)
  | _, _, 0, r => r
  | _, _, _ + 1, .nil => .nil
  | _, _, n + 1, .cons _ t => Vals.drop n t
def RelO : Option V → Option Value → Prop
  | some v, some u => RelV v u
  | none, none => True
  | _, _ => False
def KV {κ : Type} : List (κ × V) → List (κ × Value) → Prop := Paired fun (p : κ × V) (q : κ × Value) => p.1 = q.1 ∧ RelV p.2 q.2
def kV : Key → V
  | .inl i => .int i
  | .inr x => .str x
inductive HO where
  /-- a list -/
  | lst (xs : List V)
  /-- a tuple (never changes) -/
  | tup (xs : List V)
  /-- a dict whose keys are ints and texts; one whose keys are tuples of ints and texts (the empty one is both) -/
  | dK (kvs : List (Key × V)) | dT (kvs : List (List Key × V))
  /-- a set of ints: its members, its size -/
  | set (S : Int → Bool) (n : Nat)
  /-- an instance of the class at C, its dict at dx, its attributes -/
  | ins (C dx : Addr) (fs : List (Str × V))
  /-- the dict of the instance at x -/
  | own (x : Addr)
  /-- the dict of an exception -/
  | xd (fs : List (Str × V))
  /-- a bound method, f of x -/
  | met (f x : Addr)
  /-- a range object lo, lo + 1, .. below hi -/
  | rng (lo hi : Int)
  /-- a thing that is known to the object (the script; a dict while a loop walks it): read, never written while it is so -/
  | frz (o : Obj) (u : HO)
  /-- a code object's table -/
  | tbl (ps : Array Value)
  /-- any other thing, by what is true of its one object (a def of one's own: SetO a S n := HO.ext fun h => ..) -/
  | ext (φ : Heap → Prop)
abbrev Hp := Addr → Option HO
def upd (H : Hp) (a : Addr) (o : HO) : Hp := fun b => if b = a then some o else H b
theorem yaa {H : Hp} {a : Addr} {o : HO} : upd H a o a = some o := by unfold upd; rw [if_pos rfl]
theorem qag {H : Hp} {a b : Addr} {o : HO} (h : b ≠ a) : upd H a o b = H b := by unfold upd; rw [if_neg h]
theorem qe3 {H : Hp} {a : Addr} {o u : HO} : upd (upd H a o) a u = upd H a u := by
  funext b; unfold upd; split <;> rfl
theorem yah {H : Hp} {a b : Addr} {o : HO} (h : H a = some o) (h' : H b = none) : a ≠ b := by
  intro e; subst e; rw [h] at h'; cases h'
section
variable (P : Program) (w : World)
def qbj (H : Hp) (h : Heap) (a : Addr) : HO → Prop
  | .lst xs => xs.length ≤ sizeLine ∧ ∃ (its : List Value) (n : Nat), Vals xs its ∧ h.get? a = some { cls := .type "list", data := .seq its.toArray n }
  | .tup xs => xs.length ≤ sizeLine ∧ ∃ its : List Value, Vals xs its ∧ IsTup h a its.toArray
  | .dK kvs => kvs.length ≤ sizeLine ∧ (a == sysModules) = false ∧ ∃ vs, KV kvs vs ∧ h.DictOf (yje P w) a vs
  | .dT kvs => kvs.length ≤ sizeLine ∧ (a == sysModules) = false ∧ ∃ xs : List (List Key × Addr × Value),
      Paired (fun (p : List Key × V) (q : List Key × Addr × Value) => p.1 = q.1 ∧ H q.2.1 = some (.tup (p.1.map kV)) ∧ RelV p.2 q.2.2) kvs xs ∧
      ∃ o es ep, h.get? a = some o ∧ o.ExactDict ∧ o.data = .dict es ep ∧ es.toList = xs.map (entryOfKey (tupleKind (yje P w))) ∧ (xs.map (·.1)).Nodup
  | .set S n => h.SetOf (intKind P w) a S n
  | .ins C dx fs => H dx = some (.own a) ∧ fs.length ≤ 1000 ∧ dx ≠ a ∧ h.get? a = some (PySem.W.instObj C dx) ∧
      ∃ mA, h.Ns1 dx mA ∧ (∀ f, RelO (fs.lookup f) (mA f)) ∧ PySem.Within mA (fs.map (·.1))
  | .own _ => ∃ o, h.get? a = some o
  | .xd fs => ∃ mA, h.Ns1 a mA ∧ ∀ f, RelO (fs.lookup f) (mA f)
  | .rng lo hi => ∃ t u v, h.get? a = some { cls := .type "range", data := .fields #[.int lo t, .int hi u, .int 1 v] }
  | .frz o u => h.get? a = some o ∧ qbj H h a u
  | .tbl ps => h.get? a = some { cls := .none, data := .fields ps }
  | .met f x => h.get? a = some (PySem.W.methodObj (.ref f) (.ref x))
  | .ext φ => φ h ∧ (∃ o, h.get? a = some o) ∧ ∀ h1 h2 : Heap, φ h1 → (∀ o, h1.get? a = some o → h2.get? a = some o) → φ h2
def HOk (H : Hp) (h : Heap) : Prop := ∀ a o, H a = some o → qbj P w H h a o
end
section
variable {P : Program} {w : World} {H H' : Hp} {h h' : Heap} {a : Addr} {o : HO}
theorem qbj.lt (x : qbj P w H h a o) : a < h.objs.size := by
  cases o with
  | lst xs => obtain ⟨_, _, _, _, e⟩ := x; exact Heap.lt_size e
  | tup xs => obtain ⟨_, _, _, p⟩ := x; exact p.lt
  | dK kvs => obtain ⟨_, _, _, _, o, _, _, e, _⟩ := x; exact Heap.lt_size e
  | dT kvs => obtain ⟨_, _, _, _, o, _, _, e, _⟩ := x; exact Heap.lt_size e
  | set S n => obtain ⟨o, _, _, _, e, _⟩ := x; exact Heap.lt_size e
  | ins C dx fs => obtain ⟨_, _, _, e, _⟩ := x; exact Heap.lt_size e
  | own y => obtain ⟨_, e⟩ := x; exact Heap.lt_size e
  | xd fs => obtain ⟨_, ⟨_, _, _, e, _⟩, _⟩ := x; exact Heap.lt_size e
  | rng lo hi => obtain ⟨_, _, _, e⟩ := x; exact Heap.lt_size e
  | frz ob u => obtain ⟨e, _⟩ := x; exact Heap.lt_size e
  | tbl ps => exact Heap.lt_size (show h.get? a = some _ from x)
  | met f y => exact Heap.lt_size (show h.get? a = some _ from x)
  | ext φ => obtain ⟨_, ⟨_, e⟩, _⟩ := x; exact Heap.lt_size e
theorem Paired.mapP {α β : Type} {F G : α → β → Prop} : ∀ {l₁ : List α} {l₂ : List β}, Paired F l₁ l₂ → (∀ a b, F a b → G a b) → Paired G l₁ l₂
  | _, _, .nil, _ => .nil
  | _, _, .cons r t, f => .cons (f _ _ r) (Paired.mapP t f)
theorem qbj.stay (x : qbj P w H h a o) (k : ∀ b u, (b = a ∨ H b = some (.own a)) → h.get? b = some u → h'.get? b = some u)
    (ho : ∀ b, H b = some (.own a) → H' b = some (.own a)) (ht : ∀ b xs, H b = some (.tup xs) → H' b = some (.tup xs)) : qbj P w H' h' a o := by
  induction o with
  | lst xs => obtain ⟨z, its, n, r, e⟩ := x; exact ⟨z, its, n, r, k _ _ (.inl rfl) e⟩
  | tup xs => obtain ⟨z, its, r, ob, e, c⟩ := x; exact ⟨z, its, r, ob, k _ _ (.inl rfl) e, c⟩
  | dK kvs => obtain ⟨z, y, vs, r, ob, es, ep, e, c⟩ := x; exact ⟨z, y, vs, r, ob, es, ep, k _ _ (.inl rfl) e, c⟩
  | dT kvs =>
    obtain ⟨z, y, xs, r, ob, es, ep, e, c⟩ := x
    exact ⟨z, y, xs, Paired.mapP r fun p q z => ⟨z.1, ht _ _ z.2.1, z.2.2⟩, ob, es, ep, k _ _ (.inl rfl) e, c⟩
  | set S n => obtain ⟨ob, es, ep, t, e, c⟩ := x; exact ⟨ob, es, ep, t, k _ _ (.inl rfl) e, c⟩
  | ins C dx fs =>
    obtain ⟨d, z, ne, e, mA, ⟨od, es, ep, e2, c⟩, r⟩ := x
    exact ⟨ho _ d, z, ne, k _ _ (.inl rfl) e, mA, ⟨od, es, ep, k _ _ (.inr d) e2, c⟩, r⟩
  | own y => obtain ⟨ob, e⟩ := x; exact ⟨ob, k _ _ (.inl rfl) e⟩
  | xd fs => obtain ⟨mA, ⟨od, es, ep, e, c⟩, r⟩ := x; exact ⟨mA, ⟨od, es, ep, k _ _ (.inl rfl) e, c⟩, r⟩
  | rng lo hi => obtain ⟨t, u, v, e⟩ := x; exact ⟨t, u, v, k _ _ (.inl rfl) e⟩
  | frz ob u ih => obtain ⟨e, q⟩ := x; exact ⟨k _ _ (.inl rfl) e, ih q⟩
  | tbl ps =>
    have e : h.get? a = some { cls := .none, data := .fields ps } := x
    show h'.get? a = some { cls := .none, data := .fields ps }
    exact k a _ (.inl rfl) e
  | met f y =>
    have e : h.get? a = some (PySem.W.methodObj (.ref f) (.ref y)) := x
    show h'.get? a = some (PySem.W.methodObj (.ref f) (.ref y))
    exact k a _ (.inl rfl) e
  | ext φ => obtain ⟨p, ⟨o, e⟩, st⟩ := x; exact ⟨st _ _ p fun o q => k _ _ (.inl rfl) q, ⟨o, k _ _ (.inl rfl) e⟩, st⟩
theorem HOk.lt (x : HOk P w H h) (e : H a = some o) : a < h.objs.size := (x a o e).lt
theorem HOk.fresh (x : HOk P w H h) (e : h.objs.size ≤ a) : H a = none := by
  cases q : H a with
  | none => rfl
  | some u => exact absurd (Nat.lt_of_lt_of_le (x.lt q) e) (Nat.lt_irrefl _)
theorem HOk.kept (x : HOk P w H h) (k : ∀ b u, h.get? b = some u → h'.get? b = some u) : HOk P w H h' := fun a o e =>
  (x a o e).stay (fun b u _ q => k b u q) (fun _ q => q) fun _ _ q => q
theorem HOk.laid (x : HOk P w H h) (k : ∀ b u, h.get? b = some u → h'.get? b = some u) (hp : h.objs.size ≤ a) (new : qbj P w (upd H a o) h' a o) : HOk P w (upd H a o) h' := fun b u e => by
  have hn := x.fresh hp
  by_cases hb : b = a
  · subst hb; rw [yaa] at e; cases e; exact new
  · rw [qag hb] at e
    exact (x b u e).stay (fun c v _ q => k c v q) (fun c q => by rw [qag (yah q hn)]; exact q) fun c xs q => by rw [qag (yah q hn)]; exact q
end
def Rd (H : Hp) (a : Addr) (u : HO) : Prop := H a = some u ∨ ∃ o, H a = some (.frz o u)
theorem Rd.ok {P : Program} {w : World} {H : Hp} {h : Heap} {a : Addr} {u : HO} (r : Rd H a u) (x : HOk P w H h) : qbj P w H h a u := by
  rcases r with r | ⟨o, r⟩
  · exact x a u r
  · obtain ⟨_, q⟩ := x a _ r
    exact q
def Mut : Option HO → Prop
  | some (.lst _) => True
  | some (.dK _) => True
  | some (.dT _) => True
  | some (.set _ _) => True
  | some (.ins _ _ _) => True
  | some (.ext _) => True
  | _ => False
section
variable {P : Program} {w : World} {H : Hp} {h h' : Heap} {x e : Addr} {o' : HO}
theorem HOk.write (ok : HOk P w H h) (mu : Mut (H x)) (he : e = x ∨ H e = some (.own x)) (k : ∀ b u, b ≠ e → h.get? b = some u → h'.get? b = some u) (heo : ∃ u, h'.get? e = some u)
    (new : qbj P w (upd H x o') h' x o') : HOk P w (upd H x o') h' := fun b u q => by
  have nown : ∀ c y, H c = some (.own y) → c ≠ x := fun c y r z => by subst z; rw [r] at mu; exact mu
  have ntup : ∀ c xs, H c = some (.tup xs) → c ≠ x := fun c xs r z => by subst z; rw [r] at mu; exact mu
  by_cases hb : b = x
  · subst hb; rw [yaa] at q; cases q; exact new
  · rw [qag hb] at q
    by_cases hbe : b = e
    · have q' : H b = some (.own x) := by
        rcases he with z | z
        · exact absurd (hbe.trans z) hb
        · rw [hbe]; exact z
      rw [q] at q'; cases q'
      obtain ⟨v, hv⟩ := heo
      exact ⟨v, by rw [hbe]; exact hv⟩
    · refine (ok b u q).stay (fun c v hc r => k c v ?_ r) (fun c r => by rw [qag (nown c b r)]; exact r) fun c xs r => by rw [qag (ntup c xs r)]; exact r
      rcases hc with rfl | hc
      · exact hbe
      · rintro rfl
        rcases he with z | z
        · exact nown c b hc z
        · rw [hc] at z; cases z; exact hb rfl
end
structure Un (fs ex : List Addr) (H H' : Hp) (h h' : Heap) : Prop where
  keep : ∀ b o, h.get? b = some o → H b = none → b ∉ fs → b ∉ ex → h'.get? b = some o
  slot : ∀ b o, h.get? b = some o → H b = none → b ∈ fs → b ∉ ex → ∃ sl, h'.get? b = some { o with slots := sl }
  free : ∀ b o, h.get? b = some o → H b = none → b ∉ ex → H' b = none
  there : ∀ b o, h.get? b = some o → b ∉ ex → ∃ o', h'.get? b = some o'
  tups : ∀ b xs, H b = some (.tup xs) → H' b = some (.tup xs)
  frzs : ∀ b o u, H b = some (.frz o u) → H' b = some (.frz o u)
  tbls : ∀ b ps, H b = some (.tbl ps) → ∃ more, H' b = some (.tbl (ps ++ more))
section
variable {fs fs' ex ex' : List Addr} {H H1 H2 : Hp} {h h1 h2 h' : Heap} {a x e : Addr} {o : HO}
theorem Un.any (u : Un fs ex H H1 h h1) {b : Addr} {ob : Obj} (q : h.get? b = some ob) (n : H b = none) (hx : b ∉ ex) : ∃ sl, h1.get? b = some { ob with slots := sl } := by
  by_cases hb : b ∈ fs
  · exact u.slot b ob q n hb hx
  · exact ⟨ob.slots, u.keep b ob q n hb hx⟩
theorem Un.kept (k : ∀ b u, h.get? b = some u → h'.get? b = some u) : Un fs ex H H h h' :=
  ⟨fun b ob q _ _ _ => k b ob q, fun b ob q _ _ _ => ⟨ob.slots, k b ob q⟩, fun _ _ _ n _ => n, fun b ob q _ => ⟨ob, k b ob q⟩, fun _ _ q => q, fun _ _ _ q => q, fun _ ps q => ⟨#[], by rw [q]; simp⟩⟩
theorem Un.refl : Un fs ex H H h h := Un.kept fun _ _ q => q
theorem Un.laid (k : ∀ b u, h.get? b = some u → h'.get? b = some u) (hp : h.objs.size ≤ a) (hn : H a = none) : Un fs ex H (upd H a o) h h' where
  keep := fun b u q _ _ _ => k b u q
  slot := fun b u q _ _ _ => ⟨u.slots, k b u q⟩
  free := fun b u q n _ => by rw [qag (Nat.ne_of_lt (Nat.lt_of_lt_of_le (Heap.lt_size q) hp))]; exact n
  there := fun b u q _ => ⟨u, k b u q⟩
  tups := fun b xs q => by rw [qag (yah q hn)]; exact q
  frzs := fun b u xs q => by rw [qag (yah q hn)]; exact q
  tbls := fun b ps q => ⟨#[], by rw [qag (yah q hn), q]; simp⟩
theorem Un.write (mu : Mut (H x)) (he : e = x ∨ H e = some (.own x)) (k : ∀ b u, b ≠ e → h.get? b = some u → h'.get? b = some u) (heo : ∃ u, h'.get? e = some u) : Un fs ex H (upd H x o) h h' := by
  have hx : ∀ b, H b = none → b ≠ x := fun b n z => by subst z; rw [n] at mu; exact mu
  have hb : ∀ b, H b = none → b ≠ e := fun b n z => by
    subst z
    rcases he with r | r
    · exact hx b n r
    · rw [n] at r; cases r
  have hm : ∀ b u, H b = some u → ¬ Mut (some u) → b ≠ x := fun b u q nm z => by subst z; rw [q] at mu; exact nm mu
  refine ⟨fun b u q n _ _ => k b u (hb b n) q, fun b u q n _ _ => ⟨u.slots, k b u (hb b n) q⟩, fun b u q n _ => by rw [qag (hx b n)]; exact n, fun b u q _ => ?_,
    fun b xs q => by rw [qag (hm b _ q fun z => z)]; exact q, fun b u xs q => by rw [qag (hm b _ q fun z => z)]; exact q, fun b ps q => ⟨#[], by rw [qag (hm b _ q fun z => z), q]; simp⟩⟩
  by_cases hbe : b = e
  · subst hbe; exact heo
  · exact ⟨u, k b u hbe q⟩
end
def trk (h : Heap) (H : Hp) : List Addr := (List.range h.objs.size).filter fun a => (H a).isSome
def hidT (h : Heap) (H : Hp) : Heap := PySem.W.hideAll h (trk h H)
theorem yjd (h : Heap) (H : Hp) : (hidT h H).objs.size = h.objs.size := PySem.W.hideAll_size _ _
theorem hidT_get {h : Heap} {H : Hp} {b : Addr} {o : Obj} (e : h.get? b = some o) (n : H b = none) : (hidT h H).get? b = some o :=
  PySem.W.hideAll_get _ e fun hm => by
    have q : (H b).isSome = true := (List.mem_filter.mp hm).2
    rw [n] at q; simp at q
theorem of_hidT {h : Heap} {H : Hp} {b : Addr} {o : Obj} (e : (hidT h H).get? b = some o) : h.get? b = some o ∧ H b = none := by
  have e' : h.get? b = some o := PySem.W.of_hideAll (trk h H) e
  refine ⟨e', ?_⟩
  cases q : H b with
  | none => rfl
  | some x =>
    have hm : b ∈ trk h H := List.mem_filter.mpr ⟨List.mem_range.mpr (Heap.lt_size e'), by simp [q]⟩
    have z : (hidT h H).get? b = none := PySem.W.hideAll_none (trk h H) hm
    rw [z] at e; cases e
structure Mod (K : PySem.W.Frag) (mg : Str → Option Value) (base : Heap) : Prop where
  kin : K.In base
  glob : base.Ns mainGlobals mg
  blt : ∃ mb, base.Ns builtinsNs mb ∧ ∀ x : Str, x ≠ "__name__" → mb x = bootBuiltins x
  nolimit : base.NoLimit
structure Cx where
  prog : Program
  w : World
  K : PySem.W.Frag
  mg : Str → Option Value
  base : Heap
  A : Around
  N : List Str
  s₀ : Shared
  H₀ : Hp
  env : Env
  outer : List Env
  stack : List Env
  ex : List Addr
  fn : Str → Bool
  calm : Bool
  pn : List (Addr × Obj)
  xe : Value → Shared → Prop
def frs (l : List Env) : List Addr := l.filterMap (·.frame)
abbrev Cx.fs (X : Cx) : List Addr := frs X.outer
def Vis (sc : Scope) (x : Str) : Prop := sc.names.lookup x = some .local ∨ sc.names.lookup x = some .cell ∨ sc.names.lookup x = some .free
def Loc (sc : Scope) (x : Str) : Prop := sc.names.lookup x = some .local ∨ sc.names.lookup x = some .cell
def Look (env : Env) (h : Heap) (m : Str → Option Value) (x : Str) (u : Value) : Prop :=
  (env.kindOf x = some .local ∧ m x = some u) ∨ ((env.kindOf x = some .cell ∨ env.kindOf x = some .free) ∧ ∃ c, env.cells.lookup x = some c ∧ h.IsCell c (some u))
structure Cx.Ok (X : Cx) : Prop where
  mod : Mod X.K X.mg X.base
  kind : X.env.scope.kind = .function
  glob : X.env.globals = mainGlobals
  blt : X.env.builtins = builtinsNs
  above : X.s₀.heap.objs.size ≤ X.env.locals
  inj : ∀ x y c, X.env.cells.lookup x = some c → X.env.cells.lookup y = some c → x = y
  has : ∀ x, (X.env.kindOf x = some .cell ∨ X.env.kindOf x = some .free) → ∃ c, X.env.cells.lookup x = some c
  cab : ∀ x c, X.fn x = true → X.env.cells.lookup x = some c → X.s₀.heap.objs.size ≤ c
  hd : X.calm = true → X.A.handled = none
  frames : X.A.frames = some X.stack
  stk : X.stack = X.outer ∨ (X.stack = X.env :: X.outer ∧ X.env.frame = some X.env.locals)
  exf : ∀ b ∈ X.ex, b ≠ X.env.locals ∧ ∀ x c, X.env.cells.lookup x = some c → c ≠ b
  bs : ∀ b o, X.base.get? b = some o → X.s₀.heap.get? b = some o ∧ X.H₀ b = none
  bsz : X.base.objs.size ≤ X.s₀.heap.objs.size
  noex : ∀ b o, X.base.get? b = some o → b ∉ X.ex
  exfs : ∀ b ∈ X.ex, b ∉ X.fs
  funs : X.s₀.heap.FunFrames X.base X.outer
  frf : ∀ b ∈ X.fs, X.H₀ b = none
structure Inv (X : Cx) (pins : List (Addr × Obj)) (σ : List (Option V)) (H : Hp) (s : Shared) : Prop where
  ok : X.Ok
  os : s.os = X.s₀.os
  bare : AllBare s.gens
  base : Un X.fs X.ex X.H₀ H X.s₀.heap s.heap
  loc : ∃ m, s.heap.Ns X.env.locals m ∧ ∀ (i : Nat) (x : Str) (v : V), X.N[i]? = some x → σ[i]? = some (some v) → Vis X.env.scope x → ∃ u, RelV v u ∧ Look X.env s.heap m x u
  cell : ∀ x c, X.env.cells.lookup x = some c → ∃ v, s.heap.IsCell c v
  free : H X.env.locals = none
  freeC : ∀ x c, X.env.cells.lookup x = some c → H c = none
  pin : ∀ p ∈ X.pn ++ pins, s.heap.get? p.1 = some p.2 ∧ H p.1 = none ∧ p.1 ≠ X.env.locals ∧ p.1 ∉ X.fs ∧ ∀ v, p.2.data ≠ .cell v
  hok : HOk X.prog X.w H s.heap
  len : σ.length = X.N.length
section
variable {X : Cx} {pins : List (Addr × Obj)} {σ : List (Option V)} {H H' : Hp} {s : Shared} {h' : Heap}
theorem Cx.Ok.nofr (ok : X.Ok) {b : Addr} {o : Obj} (e : X.base.get? b = some o) : b ∉ X.fs := fun hb => by
  have := (ok.funs.mem hb).1
  rw [e] at this; cases this
theorem Inv.bs (I : Inv X pins σ H s) : ∀ b o, X.base.get? b = some o → s.heap.get? b = some o ∧ H b = none := fun b o e =>
  ⟨I.base.keep b o (I.ok.bs b o e).1 (I.ok.bs b o e).2 (I.ok.nofr e) (I.ok.noex b o e), I.base.free b o (I.ok.bs b o e).1 (I.ok.bs b o e).2 (I.ok.noex b o e)⟩
theorem Inv.bk (I : Inv X pins σ H s) : ∀ b o, X.base.get? b = some o → s.heap.get? b = some o := fun b o e => (I.bs b o e).1
theorem Inv.mod (I : Inv X pins σ H s) : Mod X.K X.mg X.base := I.ok.mod
theorem Inv.kIn (I : Inv X pins σ H s) : X.K.In s.heap := I.ok.mod.kin.keeps I.bk
theorem Inv.fr (I : Inv X pins σ H s) : ∃ m, Fr X.base X.env.locals s.heap m :=
  let ⟨m, hn, _⟩ := I.loc
  ⟨m, hn, I.bk, Nat.le_trans I.ok.bsz I.ok.above⟩
theorem Inv.lt (I : Inv X pins σ H s) : X.env.locals < s.heap.objs.size := let ⟨_, hn, _⟩ := I.loc; hn.lt
theorem Inv.sz (I : Inv X pins σ H s) : X.s₀.heap.objs.size ≤ s.heap.objs.size := Nat.le_trans I.ok.above (Nat.le_of_lt I.lt)
theorem Inv.nofs (I : Inv X pins σ H s) {a : Addr} (h : s.heap.objs.size ≤ a) : a ∉ X.fs := fun hb => by
  obtain ⟨_, o, ho, _⟩ := I.ok.funs.mem hb
  exact absurd (Nat.lt_of_lt_of_le (Heap.lt_size ho) (Nat.le_trans I.sz h)) (Nat.lt_irrefl _)
theorem Inv.cne (I : Inv X pins σ H s) : ∀ x c, X.env.cells.lookup x = some c → c ≠ X.env.locals := fun x c e z => by
  obtain ⟨v, o, ho, hd⟩ := I.cell x c e
  obtain ⟨m, ⟨o', es, ep, ho', hd', _⟩, _⟩ := I.loc
  rw [z, ho'] at ho; cases ho; rw [hd'] at hd; cases hd
theorem Inv.funs (I : Inv X pins σ H s) : s.heap.FunFrames X.base X.outer := by
  have all : ∀ (l : List Env), (∀ b ∈ frs l, b ∈ X.fs) → X.s₀.heap.FunFrames X.base l → s.heap.FunFrames X.base l := by
    intro l
    induction l with
    | nil => intro _ _; trivial
    | cons env r ih =>
      intro hs hl
      obtain ⟨hk, ⟨L, o, hf, hn, ho, hd⟩, hr⟩ := hl
      have hL : L ∈ X.fs := hs L (by unfold frs; rw [List.filterMap_cons, hf]; exact List.mem_cons_self)
      obtain ⟨sl, e⟩ := I.base.slot L o ho (I.ok.frf L hL) hL fun z => I.ok.exfs L z hL
      exact ⟨hk, ⟨L, _, hf, hn, e, hd⟩, ih (fun b hb => hs b (by unfold frs; rw [List.filterMap_cons, hf]; exact List.mem_cons_of_mem _ hb)) hr⟩
  exact all X.outer (fun _ hb => hb) I.ok.funs
theorem Inv.stack (I : Inv X pins σ H s) : s.heap.FunFrames X.base X.stack := by
  rcases I.ok.stk with e | ⟨e, hf⟩
  · rw [e]; exact I.funs
  · rw [e]
    obtain ⟨m, hn, _⟩ := I.loc
    refine .cons (by rw [I.ok.kind]; decide) hf hn ?_ I.funs
    exact Heap.get?_none_of_le (Nat.le_trans I.ok.bsz I.ok.above)
theorem Inv.stkSub (I : Inv X pins σ H s) : ∀ b ∈ frs X.stack, b ∈ X.env.locals :: X.fs := fun b hb => by
  rcases I.ok.stk with e | ⟨e, hf⟩
  · rw [e] at hb; exact List.mem_cons_of_mem _ hb
  · rw [e] at hb
    unfold frs at hb
    rw [List.filterMap_cons, hf] at hb
    exact hb
theorem Inv.stkFree (I : Inv X pins σ H s) : ∀ b ∈ frs X.stack, H b = none := fun b hb => by
  rcases List.mem_cons.mp (I.stkSub b hb) with e | hb
  · rw [e]; exact I.free
  · obtain ⟨_, o, ho, _⟩ := I.ok.funs.mem hb
    exact I.base.free b o ho (I.ok.frf b hb) fun z => I.ok.exfs b z hb
theorem Inv.step {g' : Array GenState} {t' : Nat} {d' : Drawn} {ch : List Addr} (I : Inv X pins σ H s)
    (hch : ∀ b ∈ ch, (b ∈ X.ex ∨ X.s₀.heap.objs.size ≤ b) ∧ b ≠ X.env.locals ∧ (∀ x c, X.env.cells.lookup x = some c → c ≠ b) ∧ ∀ p ∈ X.pn ++ pins, p.1 ≠ b)
    (keep : ∀ b o, b ≠ X.env.locals → b ∉ X.fs → b ∉ ch → s.heap.get? b = some o → H b = none → h'.get? b = some o)
    (slot : ∀ b o, b ≠ X.env.locals → b ∈ X.fs → b ∉ ch → s.heap.get? b = some o → H b = none → ∃ sl, h'.get? b = some { o with slots := sl }) (free : ∀ b o, b ∉ ch → s.heap.get? b = some o → H b = none → H' b = none)
    (there : ∀ b o, b ∉ ch → s.heap.get? b = some o → ∃ o', h'.get? b = some o')
    (tups : ∀ b xs, H b = some (.tup xs) → H' b = some (.tup xs)) (frzs : ∀ b o u, H b = some (.frz o u) → H' b = some (.frz o u)) (tbls : ∀ b ps, H b = some (.tbl ps) → ∃ more, H' b = some (.tbl (ps ++ more)))
    (ns : ∀ m, s.heap.Ns X.env.locals m → h'.Ns X.env.locals m) (hok : HOk X.prog X.w H' h') (hg : AllBare g') :
    Inv X pins σ H' { s with heap := h', gens := g', drawn := d', toks := t' } := by
  have neL : ∀ b o, X.s₀.heap.get? b = some o → b ≠ X.env.locals := fun b o e => Nat.ne_of_lt (Nat.lt_of_lt_of_le (Heap.lt_size e) I.ok.above)
  have neC : ∀ b o, X.s₀.heap.get? b = some o → b ∉ X.ex → b ∉ ch := fun b o e hx hb => by
    rcases (hch b hb).1 with z | z
    · exact hx z
    · exact absurd (Nat.lt_of_lt_of_le (Heap.lt_size e) z) (Nat.lt_irrefl _)
  have cellK : ∀ x c, X.env.cells.lookup x = some c → ∀ v, s.heap.IsCell c v → h'.IsCell c v := fun x c e v ⟨o, ho, hd⟩ => by
    have nch : c ∉ ch := fun z => (hch c z).2.2.1 x c e rfl
    by_cases hc : c ∈ X.fs
    · obtain ⟨sl, q⟩ := slot c o (I.cne x c e) hc nch ho (I.freeC x c e)
      exact ⟨_, q, hd⟩
    · exact ⟨o, keep c o (I.cne x c e) hc nch ho (I.freeC x c e), hd⟩
  refine ⟨I.ok, I.os, hg, ⟨fun b o e n hb hx => ?_, fun b o e n hb hx => ?_, fun b o e n hx => ?_, fun b o e hx => ?_, fun b xs e => tups b xs (I.base.tups b xs e), fun b o xs e => frzs b o xs (I.base.frzs b o xs e), fun b ps e => ?_⟩, ?_, fun x c e => ?_, ?_, fun x c e => ?_, fun p hp => ?_, hok, I.len⟩
  · exact keep b o (neL b o e) hb (neC b o e hx) (I.base.keep b o e n hb hx) (I.base.free b o e n hx)
  · obtain ⟨sl, e1⟩ := I.base.slot b o e n hb hx
    obtain ⟨sl', e2⟩ := slot b _ (neL b o e) hb (neC b o e hx) e1 (I.base.free b o e n hx)
    exact ⟨sl', e2⟩
  · obtain ⟨o', e1⟩ := I.base.there b o e hx
    exact free b o' (neC b o e hx) e1 (I.base.free b o e n hx)
  · obtain ⟨o', e1⟩ := I.base.there b o e hx
    exact there b o' (neC b o e hx) e1
  · obtain ⟨m1, e1⟩ := I.base.tbls b ps e
    obtain ⟨m2, e2⟩ := tbls b _ e1
    exact ⟨m1 ++ m2, by rw [e2, Array.append_assoc]⟩
  · obtain ⟨m, hn, hl⟩ := I.loc
    refine ⟨m, ns m hn, fun i x v e1 e2 e3 => ?_⟩
    obtain ⟨u, r, l⟩ := hl i x v e1 e2 e3
    refine ⟨u, r, ?_⟩
    rcases l with l | ⟨k, c, e, z⟩
    · exact .inl l
    · exact .inr ⟨k, c, e, cellK x c e _ z⟩
  · obtain ⟨v, z⟩ := I.cell x c e
    exact ⟨v, cellK x c e v z⟩
  · obtain ⟨m, ⟨o, _, _, ho, _⟩, _⟩ := I.loc
    exact free _ o (fun z => (hch _ z).2.1 rfl) ho I.free
  · obtain ⟨v, o, ho, hd⟩ := I.cell x c e
    exact free c o (fun z => (hch c z).2.2.1 x c e rfl) ho (I.freeC x c e)
  · obtain ⟨e, n, ne, nf, d⟩ := I.pin p hp
    have nch : p.1 ∉ ch := fun z => (hch p.1 z).2.2.2 p hp rfl
    exact ⟨keep p.1 p.2 ne nf nch e n, free p.1 p.2 nch e n, ne, nf, d⟩
theorem Inv.un {t' : Nat} (I : Inv X pins σ H s) (u : Un X.fs [] H H' s.heap h') (hok : HOk X.prog X.w H' h') : Inv X pins σ H' { s with heap := h', toks := t' } := by
  obtain ⟨m, ⟨o, es, ep, ho, r⟩, _⟩ := id I.loc
  obtain ⟨sl, hL⟩ := u.any ho I.free (by simp)
  exact I.step (g' := s.gens) (d' := s.drawn) (ch := []) (fun _ z => nomatch z) (fun b o _ hb _ e n => u.keep b o e n hb (by simp)) (fun b o _ hb _ e n => u.slot b o e n hb (by simp)) (fun b o _ e n => u.free b o e n (by simp)) (fun b o _ e => u.there b o e (by simp)) u.tups u.frzs u.tbls (fun m' hm => by
    obtain ⟨o', es', ep', ho', r'⟩ := hm
    rw [ho] at ho'; cases ho'
    exact ⟨_, es', ep', hL, r'⟩) hok I.bare
theorem Inv.call {g' : Array GenState} {t' : Nat} {d' : Drawn} {ch : List Addr} (I : Inv X pins σ H s) (u : Un (frs X.stack) ch H H' s.heap h') (hok : HOk X.prog X.w H' h') (hg : AllBare g')
    (hch : ∀ b ∈ ch, (b ∈ X.ex ∨ X.s₀.heap.objs.size ≤ b) ∧ b ≠ X.env.locals ∧ (∀ x c, X.env.cells.lookup x = some c → c ≠ b) ∧ ∀ p ∈ X.pn ++ pins, p.1 ≠ b) :
    Inv X pins σ H' { s with heap := h', gens := g', drawn := d', toks := t' } := by
  obtain ⟨m, ⟨o, es, ep, ho, r⟩, _⟩ := id I.loc
  obtain ⟨sl, hL⟩ := u.any ho I.free fun z => (hch _ z).2.1 rfl
  exact I.step (ch := ch) hch (fun b o hL hb hc e n => u.keep b o e n (fun z => (List.mem_cons.mp (I.stkSub b z)).elim hL hb) hc) (fun b o _ _ hc e n => u.any e n hc) (fun b o hc e n => u.free b o e n hc) (fun b o hc e => u.there b o e hc) u.tups u.frzs u.tbls (fun m' hm => by
    obtain ⟨o', es', ep', ho', r'⟩ := hm
    rw [ho] at ho'; cases ho'
    exact ⟨_, es', ep', hL, r'⟩) hok hg
theorem Inv.turned {t' : Nat} {it : Addr} (I : Inv X pins σ H s) (k : ∀ b o, b ≠ it → s.heap.get? b = some o → h'.get? b = some o) (hn : H it = none) (hL : it ≠ X.env.locals)
    (h1 : it ∈ X.ex ∨ X.s₀.heap.objs.size ≤ it) (h2 : ∀ x c, X.env.cells.lookup x = some c → c ≠ it) (h3 : ∀ p ∈ X.pn ++ pins, p.1 ≠ it) : Inv X pins σ H { s with heap := h', toks := t' } := by
  have nit : ∀ b u, H b = some u → b ≠ it := fun b u e z => by rw [z, hn] at e; cases e
  refine I.step (g' := s.gens) (d' := s.drawn) (ch := [it]) (fun b hb => ?_) (fun b o _ _ hc e _ => k b o (fun z => hc (by simp [z])) e) (fun b o _ _ hc e _ => ⟨o.slots, k b o (fun z => hc (by simp [z])) e⟩) (fun _ _ _ _ n => n)
    (fun b o hc e => ⟨o, k b o (fun z => hc (by simp [z])) e⟩) (fun _ _ e => e) (fun _ _ _ e => e) (fun b ps e => ⟨#[], by rw [e]; simp⟩) (fun m hm => ?_) (fun b u e => ?_) I.bare
  · have e : b = it := by simpa using hb
    subst e
    exact ⟨h1, hL, h2, h3⟩
  · obtain ⟨o, es, ep, ho, r⟩ := hm
    exact ⟨o, es, ep, k _ o (Ne.symm hL) ho, r⟩
  · refine (I.hok b u e).stay (fun c v hc q => k c v ?_ q) (fun _ q => q) fun _ _ q => q
    rcases hc with z | z
    · rw [z]; exact nit b u e
    · exact nit c _ z
theorem Inv.tok (I : Inv X pins σ H s) (t : Nat) : Inv X pins σ H { s with toks := t } := I.un (h' := s.heap) (t' := t) Un.refl I.hok
theorem Inv.kept {t' : Nat} (I : Inv X pins σ H s) (k : ∀ b u, s.heap.get? b = some u → h'.get? b = some u) : Inv X pins σ H { s with heap := h', toks := t' } := I.un (Un.kept k) (I.hok.kept k)
theorem Inv.laid {a : Addr} {o : HO} {t' : Nat} (I : Inv X pins σ H s) (k : ∀ b u, s.heap.get? b = some u → h'.get? b = some u) (hp : s.heap.objs.size ≤ a) (new : qbj X.prog X.w (upd H a o) h' a o) :
    Inv X pins σ (upd H a o) { s with heap := h', toks := t' } := I.un (Un.laid k hp (I.hok.fresh hp)) (I.hok.laid k hp new)
theorem Inv.write {x e : Addr} {o : HO} {t' : Nat} (I : Inv X pins σ H s) (mu : Mut (H x)) (he : e = x ∨ H e = some (.own x)) (k : ∀ b u, b ≠ e → s.heap.get? b = some u → h'.get? b = some u) (heo : ∃ u, h'.get? e = some u)
    (new : qbj X.prog X.w (upd H x o) h' x o) : Inv X pins σ (upd H x o) { s with heap := h', toks := t' } := I.un (Un.write mu he k heo) (I.hok.write mu he k heo new)
theorem Inv.weak {σ' : List (Option V)} (I : Inv X pins σ H s) (hl : σ'.length = σ.length) (w : ∀ (i : Nat) v, σ'[i]? = some (some v) → σ[i]? = some (some v)) : Inv X pins σ' H s :=
  ⟨I.ok, I.os, I.bare, I.base, let ⟨m, hn, hl'⟩ := I.loc; ⟨m, hn, fun i x v e1 e2 e3 => hl' i x v e1 (w i v e2) e3⟩, I.cell, I.free, I.freeC, I.pin, I.hok, hl.trans I.len⟩
theorem Inv.pins_of {pins' : List (Addr × Obj)} (I : Inv X pins σ H s) (h : ∀ p ∈ pins', s.heap.get? p.1 = some p.2 ∧ H p.1 = none ∧ p.1 ≠ X.env.locals ∧ p.1 ∉ X.fs ∧ ∀ v, p.2.data ≠ .cell v) : Inv X pins' σ H s :=
  ⟨I.ok, I.os, I.bare, I.base, I.loc, I.cell, I.free, I.freeC, fun p hp => (List.mem_append.mp hp).elim (fun z => I.pin p (List.mem_append_left _ z)) (h p), I.hok, I.len⟩
theorem qgd {N : List Str} (hN : N.Nodup) {i j : Nat} {x : Str} (a : N[i]? = some x) (b : N[j]? = some x) : i = j := by
  obtain ⟨h1, e1⟩ := List.getElem?_eq_some_iff.mp a
  obtain ⟨h2, e2⟩ := List.getElem?_eq_some_iff.mp b
  exact (List.getElem_inj hN).mp (e1.trans e2.symm)
theorem ygs {M : Model} {A : Around} {E : Value → Shared → Prop} {i : Nat} {x : Str} {v : V} {u : Value} {Q : Unit → Shared → Prop} (I : Inv X pins σ H s) (hN : X.N.Nodup) (hi : X.N[i]? = some x) (hx : Loc X.env.scope x) (r : RelV v u)
    (h : ∀ s', Inv X pins (σ.set i (some v)) H s' → (∃ a, Heap.SameBut a s.heap s'.heap ∧ (a = X.env.locals ∨ X.env.cells.lookup x = some a)) → Q () s') (hf : X.fn x = true ∨ X.env.scope.names.lookup x = some .local := by first | exact .inl rfl | exact .inr rfl | assumption) : wpAny M A (storeName X.env x u) Q E s := by
  obtain ⟨m, hn, hl⟩ := id I.loc
  have hcls : (X.env.scope.kind == .class || (X.env.scope.kind == .module && X.env.locals != X.env.globals)) = false := by rw [I.ok.kind]; rfl
  have hiσ : i < σ.length := by rw [I.len]; exact (List.getElem?_eq_some_iff.mp hi).1
  have cne := I.cne
  have tracked : ∀ {a : Addr} {h' : Heap}, (∃ o, s.heap.get? a = some o ∧ H a = none) → Heap.SameBut a s.heap h' → HOk X.prog X.w H h' := fun {a h'} ha hs b ob e => by
    obtain ⟨_, _, hfree⟩ := ha
    refine (I.hok b ob e).stay (fun c w' hc q => (hs.2 c ?_).trans q) (fun _ q => q) fun _ _ q => q
    rintro rfl
    rcases hc with rfl | hc
    · rw [hfree] at e; cases e
    · rw [hfree] at hc; cases hc
  rcases hx with hk | hk
  · refine wpAny_storeName_local hk hn (fun h' hn' hs => ?_) hcls
    obtain ⟨oL, _, _, hoL, _⟩ := id hn
    refine h _ ⟨I.ok, I.os, I.bare, ⟨fun b o e n hb hx => ?_, fun b o e n hb hx => ?_, I.base.free, fun b o e hx => ?_, I.base.tups, I.base.frzs, I.base.tbls⟩, ⟨_, hn', fun j y v' e1 e2 e3 => ?_⟩, fun y c e => ?_, I.free, I.freeC, fun p hp => ?_, tracked ⟨oL, hoL, I.free⟩ hs, by simpa using I.len⟩ ⟨_, hs, .inl rfl⟩
    · exact (hs.2 b (Nat.ne_of_lt (Nat.lt_of_lt_of_le (Heap.lt_size e) I.ok.above))).trans (I.base.keep b o e n hb hx)
    · obtain ⟨sl, e1⟩ := I.base.slot b o e n hb hx
      exact ⟨sl, (hs.2 b (Nat.ne_of_lt (Nat.lt_of_lt_of_le (Heap.lt_size e) I.ok.above))).trans e1⟩
    · obtain ⟨o', e1⟩ := I.base.there b o e hx
      exact ⟨o', (hs.2 b (Nat.ne_of_lt (Nat.lt_of_lt_of_le (Heap.lt_size e) I.ok.above))).trans e1⟩
    · by_cases hj : j = i
      · subst hj
        rw [hi] at e1; cases e1
        rw [List.getElem?_set_self hiσ] at e2
        cases e2
        exact ⟨u, r, .inl ⟨hk, by simp⟩⟩
      · rw [List.getElem?_set_ne (Ne.symm hj)] at e2
        obtain ⟨u', r', q⟩ := hl j y v' e1 e2 e3
        refine ⟨u', r', ?_⟩
        rcases q with ⟨k, e⟩ | ⟨k, c, e, z⟩
        · refine .inl ⟨k, ?_⟩
          have : y ≠ x := fun e => hj (qgd hN e1 (e ▸ hi))
          simp [this, e]
        · exact .inr ⟨k, c, e, z.sameBut hs (cne y c e)⟩
    · obtain ⟨w', z⟩ := I.cell y c e
      exact ⟨w', z.sameBut hs (cne y c e)⟩
    · obtain ⟨e, n, ne, nf, d⟩ := I.pin p hp
      exact ⟨(hs.2 p.1 ne).trans e, n, ne, nf, d⟩
  · have hfn : X.fn x = true := by
      rcases hf with z | z
      · exact z
      · rw [z] at hk; cases hk
    obtain ⟨c, hc⟩ := I.ok.has x (.inl hk)
    obtain ⟨w', z⟩ := I.cell x c hc
    refine wpAny_storeName_cell I.ok.kind hk hc z (fun h' hc' hs => ?_)
    obtain ⟨oc, hoc, hocd⟩ := id z
    refine h { s with heap := h' } ⟨I.ok, I.os, I.bare, ⟨fun b o e n hb hx => ?_, fun b o e n hb hx => ?_, I.base.free, fun b o e hx => ?_, I.base.tups, I.base.frzs, I.base.tbls⟩, ⟨m, hn.sameBut hs (Ne.symm (cne x c hc)), fun j y v' e1 e2 e3 => ?_⟩, fun y c' e => ?_, I.free, I.freeC, fun p hp => ?_, tracked ⟨oc, hoc, I.freeC x c hc⟩ hs, by simpa using I.len⟩ ⟨c, hs, .inr hc⟩
    · exact (hs.2 b (Nat.ne_of_lt (Nat.lt_of_lt_of_le (Heap.lt_size e) (I.ok.cab x c hfn hc)))).trans (I.base.keep b o e n hb hx)
    · obtain ⟨sl, e1⟩ := I.base.slot b o e n hb hx
      exact ⟨sl, (hs.2 b (Nat.ne_of_lt (Nat.lt_of_lt_of_le (Heap.lt_size e) (I.ok.cab x c hfn hc)))).trans e1⟩
    · obtain ⟨o', e1⟩ := I.base.there b o e hx
      exact ⟨o', (hs.2 b (Nat.ne_of_lt (Nat.lt_of_lt_of_le (Heap.lt_size e) (I.ok.cab x c hfn hc)))).trans e1⟩
    · by_cases hj : j = i
      · subst hj
        rw [hi] at e1; cases e1
        rw [List.getElem?_set_self hiσ] at e2
        cases e2
        exact ⟨u, r, .inr ⟨.inl hk, c, hc, hc'⟩⟩
      · rw [List.getElem?_set_ne (Ne.symm hj)] at e2
        obtain ⟨u', r', q⟩ := hl j y v' e1 e2 e3
        refine ⟨u', r', ?_⟩
        rcases q with q | ⟨k, c', e, z'⟩
        · exact .inl q
        · refine .inr ⟨k, c', e, z'.sameBut hs ?_⟩
          rintro rfl
          exact hj (qgd hN e1 (I.ok.inj _ _ _ e hc ▸ hi))
    · by_cases hcc : c' = c
      · subst hcc; exact ⟨_, hc'⟩
      · obtain ⟨w2, z2⟩ := I.cell y c' e
        exact ⟨w2, z2.sameBut hs hcc⟩
    · obtain ⟨e, n, ne, nf, d⟩ := I.pin p hp
      refine ⟨(hs.2 p.1 ?_).trans e, n, ne, nf, d⟩
      intro q
      rw [q, hoc] at e
      have q' : oc = p.2 := Option.some.inj e
      exact d w' (by rw [← q']; exact hocd)
theorem qet {M : Model} {A : Around} {E : Value → Shared → Prop} {i : Nat} {x : Str} {v : V} {u : Value} {Q : Unit → Shared → Prop} (I : Inv X pins σ H s) (hN : X.N.Nodup) (hi : X.N[i]? = some x) (hx : Loc X.env.scope x) (r : RelV v u)
    (h : ∀ s', Inv X pins (σ.set i (some v)) H s' → Q () s') (hf : X.fn x = true ∨ X.env.scope.names.lookup x = some .local := by first | exact .inl rfl | exact .inr rfl | assumption) : wpAny M A (storeName X.env x u) Q E s :=
  ygs I hN hi hx r (fun s' I' _ => h s' I') hf
theorem Inv.call' {s' : Shared} {ch : List Addr} (I : Inv X pins σ H s) (ho : s'.os = s.os) (u : Un (frs X.stack) ch H H' s.heap s'.heap) (hok : HOk X.prog X.w H' s'.heap) (hg : AllBare s'.gens)
    (hch : ∀ b ∈ ch, (b ∈ X.ex ∨ X.s₀.heap.objs.size ≤ b) ∧ b ≠ X.env.locals ∧ (∀ x c, X.env.cells.lookup x = some c → c ≠ b) ∧ ∀ p ∈ X.pn ++ pins, p.1 ≠ b) : Inv X pins σ H' s' := by
  obtain ⟨h', g', d', t', o'⟩ := s'
  have e : o' = s.os := ho
  subst e
  exact I.call (g' := g') (t' := t') (d' := d') u hok hg hch
end
abbrev XK := Value → Option Addr → Hp → Prop
abbrev St := List (Option V)
abbrev VK := V → Hp → Prop
abbrev TE := St → Hp → VK → Prop
abbrev TT := St → Hp → (Bool → Hp → Prop) → Prop
abbrev TA := St → Hp → (List V → Hp → Prop) → Prop
structure Ends where
  nx : St → Hp → Prop
  rt : VK
  bk : St → Hp → Prop := fun _ _ => False
  ct : St → Hp → Prop := fun _ _ => False
abbrev TS := Ends → St → Hp → Prop
def EP (X : Cx) (pins : List (Addr × Obj)) (σ : St) (Q : VK) (u : Value) (s' : Shared) : Prop := ∃ v H', Inv X pins σ H' s' ∧ RelV v u ∧ Q v H'
def TP (X : Cx) (pins : List (Addr × Obj)) (σ : St) (Q : Bool → Hp → Prop) (b : Bool) (s' : Shared) : Prop := ∃ H', Inv X pins σ H' s' ∧ Q b H'
def AP (X : Cx) (pins : List (Addr × Obj)) (σ : St) (Q : List V → Hp → Prop) (us : List Value) (s' : Shared) : Prop := ∃ vs H', Inv X pins σ H' s' ∧ Vals vs us ∧ Q vs H'
def SP (X : Cx) (pins : List (Addr × Obj)) (D : Ends) (f : Flow) (s' : Shared) : Prop :=
  match f with
  | .next => ∃ σ' H', Inv X pins σ' H' s' ∧ D.nx σ' H'
  | .brk => ∃ σ' H', Inv X pins σ' H' s' ∧ D.bk σ' H'
  | .cont => ∃ σ' H', Inv X pins σ' H' s' ∧ D.ct σ' H'
  | .ret u => ∃ v σ' H', Inv X pins σ' H' s' ∧ RelV v u ∧ D.rt v H'
def PE (X : Cx) (e : Expr) (t : TE) : Prop :=
  ∀ (pins : List (Addr × Obj)) (s : Shared) (σ : St) (H : Hp) (Q : VK), Inv X pins σ H s → t σ H Q → wpAny (model X.prog X.w) X.A (eval e X.env) (EP X pins σ Q) X.xe s
def PT (X : Cx) (e : Expr) (t : TT) : Prop :=
  ∀ (pins : List (Addr × Obj)) (s : Shared) (σ : St) (H : Hp) (Q : Bool → Hp → Prop), Inv X pins σ H s → t σ H Q → wpAny (model X.prog X.w) X.A (isTrue e X.env (eval e X.env)) (TP X pins σ Q) X.xe s
def PW (X : Cx) (e : Expr) (t : TT) : Prop :=
  ∀ (whole : Sem Value) (pins : List (Addr × Obj)) (s : Shared) (σ : St) (H : Hp) (Q : Bool → Hp → Prop), Inv X pins σ H s → t σ H Q → wpAny (model X.prog X.w) X.A (isTrue e X.env whole) (TP X pins σ Q) X.xe s
theorem PW.pt {X : Cx} {e : Expr} {t : TT} (h : PW X e t) : PT X e t := h _
def PA (X : Cx) (es : List Expr) (t : TA) : Prop :=
  ∀ (pos : Pos) (pins : List (Addr × Obj)) (s : Shared) (σ : St) (H : Hp) (Q : List V → Hp → Prop), Inv X pins σ H s → t σ H Q → wpAny (model X.prog X.w) X.A (spliced (backTo pos (starEach es X.env))) (AP X pins σ Q) X.xe s
def PS (X : Cx) (st : Stmt) (t : TS) : Prop :=
  ∀ (pins : List (Addr × Obj)) (s : Shared) (σ : St) (H : Hp) (D : Ends), Inv X pins σ H s → t D σ H → wpAny (model X.prog X.w) X.A (exec st X.env) (SP X pins D) X.xe s
def PSs (X : Cx) (st : List Stmt) (t : TS) : Prop :=
  ∀ (pins : List (Addr × Obj)) (s : Shared) (σ : St) (H : Hp) (D : Ends), Inv X pins σ H s → t D σ H → wpAny (model X.prog X.w) X.A (execs st X.env) (SP X pins D) X.xe s
theorem thn {α : Type} {t : Sem α} {Q Q' : α → Shared → Prop} {M : Model} {A : Around} {E : Value → Shared → Prop} {s : Shared} (h : wpAny M A t Q E s) (hQ : ∀ a s, Q a s → Q' a s) : wpAny M A t Q' E s := wpAny_mono h hQ fun _ _ x => x
section
variable {X : Cx}
theorem bin {a b : Expr} {ta tb : TE} (ha : PE X a ta) (hb : PE X b tb) {pins : List (Addr × Obj)} {s : Shared} {σ : St} {H : Hp} {R : V → V → Hp → Prop} (I : Inv X pins σ H s) (h : ta σ H fun x H1 => tb σ H1 fun y H2 => R x y H2)
    {α : Type} {Q : α → Shared → Prop} {f : Value → Value → Sem α}
    (hf : ∀ v u s2 x y H2, Inv X pins σ H2 s2 → RelV x v → RelV y u → R x y H2 → wpAny (model X.prog X.w) X.A (f v u) Q X.xe s2) :
    wpAny (model X.prog X.w) X.A (eval a X.env) (fun v s₁ => wpAny (model X.prog X.w) X.A (eval b X.env) (fun u s₂ => wpAny (model X.prog X.w) X.A (f v u) Q X.xe s₂) X.xe s₁) X.xe s := by
  refine thn (ha pins s σ H _ I h) fun v s1 ⟨x, H1, I1, r1, q1⟩ => ?_
  refine thn (hb pins s1 σ H1 _ I1 q1) fun u s2 ⟨y, H2, I2, r2, q2⟩ => ?_
  exact hf v u s2 x y H2 I2 r1 r2 q2
def tVar (i : Nat) : TE := fun σ H Q => ∃ v, σ[i]? = some (some v) ∧ Q v H
def tC (v : V) : TE := fun _ H Q => Q v H
theorem pe_var {i : Nat} {x : Str} {pos : Pos} (hN : X.N[i]? = some x) (hv : Vis X.env.scope x) (hd : (x == ("__debug__" : Str)) = false := by decide) (hcd : (x == ("__classdict__" : Str)) = false := by decide) : PE X (.Name x pos) (tVar i) := by
  intro pins s σ H Q I h
  obtain ⟨v, e, h⟩ := h
  obtain ⟨m, hn, hl⟩ := I.loc
  obtain ⟨u, r, l⟩ := hl i x v hN e hv
  have fin : EP X pins σ Q u s := ⟨v, H, I, r, h⟩
  rcases l with ⟨hk, hm⟩ | ⟨hk, c, hc, hcell⟩
  · exact wpAny_Name (wpAny_loadName_local I.ok.kind hk hn hm fin) hd
  · rcases hk with hk | hk
    · exact wpAny_Name (wpAny_loadName_cell I.ok.kind hk hc hcell fin) hd
    · exact wpAny_Name (wpAny_loadName_free I.ok.kind hk hc hcell fin hcd) hd
theorem qac {i j pos} : PE X (.Constant (.int i) j pos) (tC (.int i)) := fun _ _ _ H _ I h => wpAny_Constant_int ⟨.int i, H, I.tok _, ⟨_, rfl⟩, h⟩
theorem yed {b j pos} : PE X (.Constant (.bool b) j pos) (tC (.bl b)) := fun _ _ _ H _ I h => Constant_bool ⟨.bl b, H, I, rfl, h⟩
theorem qb3 {j pos} : PE X (.Constant .none j pos) (tC .non) := fun _ _ _ H _ I h => Constant_none ⟨.non, H, I, rfl, h⟩
theorem yal {x j pos} : PE X (.Constant (.str x) j pos) (tC (.str x)) := fun _ _ _ H _ I h => Calls.Constant_str ⟨.str x, H, I.tok _, ⟨_, rfl⟩, h⟩
def Gl (X : Cx) (x : Str) : Prop := X.env.kindOf x = some .globalImplicit
theorem ydm {E : Value → Shared → Prop} {pins : List (Addr × Obj)} {s : Shared} {σ : St} {H : Hp} {x : Str} {u : Value} {pos : Pos} {Q : Value → Shared → Prop} (I : Inv X pins σ H s) (hg : Gl X x) (hm : X.mg x = some u) (h : Q u s)
    (hd : (x == ("__debug__" : Str)) = false := by decide) : wpAny (model X.prog X.w) X.A (eval (.Name x pos) X.env) Q E s :=
  Calls.Name_function_global I.ok.kind hg (Calls.loadGlobal_global (by rw [I.ok.glob]; exact I.mod.glob.keeps I.bk) hm h) hd
theorem yf0 {E : Value → Shared → Prop} {pins : List (Addr × Obj)} {s : Shared} {σ : St} {H : Hp} {x : Str} {u : Value} {pos : Pos} {Q : Value → Shared → Prop} (I : Inv X pins σ H s) (hg : Gl X x) (hm : X.mg x = none) (hv : bootBuiltins x = some u) (h : Q u s)
    (hn : x ≠ "__name__" := by decide) (hd : (x == ("__debug__" : Str)) = false := by decide) : wpAny (model X.prog X.w) X.A (eval (.Name x pos) X.env) Q E s := by
  obtain ⟨mb, h1, h2⟩ := I.mod.blt
  exact Calls.Name_function_global I.ok.kind hg (Calls.loadGlobal_builtin (by rw [I.ok.glob]; exact I.mod.glob.keeps I.bk) hm (by rw [I.ok.blt]; exact h1.keeps I.bk) ((h2 x hn).trans hv) h) hd
theorem ya5 {x : Str} {v : V} {u : Value} {pos : Pos} (hg : Gl X x) (hm : X.mg x = some u) (r : RelV v u) (hd : (x == ("__debug__" : Str)) = false := by decide) : PE X (.Name x pos) (tC v) :=
  fun _ _ _ H _ I h => ydm I hg hm ⟨v, H, I, r, h⟩ hd
theorem ybm {x : Str} {v : V} {u : Value} {pos : Pos} (hg : Gl X x) (hm : X.mg x = none) (hv : bootBuiltins x = some u) (r : RelV v u) (hn : x ≠ "__name__" := by decide) (hd : (x == ("__debug__" : Str)) = false := by decide) : PE X (.Name x pos) (tC v) :=
  fun _ _ _ H _ I h => yf0 I hg hm hv ⟨v, H, I, r, h⟩ hn hd
variable {a b : Expr} {ta tb : TE} {pos : Pos}
def PC (X : Cx) (op : CmpOp) (a b : Expr) (t : TE) : Prop :=
  ∀ (pins : List (Addr × Obj)) (s : Shared) (σ : St) (H : Hp) (Q : VK), Inv X pins σ H s → t σ H Q →
    wpAny (model X.prog X.w) X.A (eval a X.env) (fun v s₁ => wpAny (model X.prog X.w) X.A (eval b X.env) (fun u s₂ => wpAny (model X.prog X.w) X.A (compareOp op v u) (EP X pins σ Q) X.xe s₂) X.xe s₁) X.xe s
theorem nobehind (b : Expr) {op : CmpOp} (h : op ≠ .In) (h2 : op ≠ .NotIn) : behindInMarks op b = false := by
  have e1 : (op == CmpOp.In) = false := by cases op <;> first | rfl | exact absurd rfl h
  have e2 : (op == CmpOp.NotIn) = false := by cases op <;> first | rfl | exact absurd rfl h2
  cases b <;> simp [behindInMarks, e1, e2]
def tIsN (ta : TE) : TE := fun σ H Q => ta σ H fun x H1 => Q (.bl (decide (x = .non))) H1
def tNotN (ta : TE) : TE := fun σ H Q => ta σ H fun x H1 => Q (.bl (!decide (x = .non))) H1
theorem RelV.none_iff {x : V} {v : Value} (r : RelV x v) : (v == Value.none) = decide (x = .non) := by
  cases x with
  | non => cases r; rfl
  | bl _ => cases r; rfl
  | int _ => obtain ⟨t, rfl⟩ := r; rfl
  | str _ => obtain ⟨t, rfl⟩ := r; rfl
  | byt _ => obtain ⟨t, rfl⟩ := r; rfl
  | flt _ => obtain ⟨t, rfl⟩ := r; rfl
  | ref _ => cases r; rfl
  | ty _ => cases r; rfl
theorem yia {j pos'} (ha : PE X a ta) : PC X .Is a (.Constant .none j pos') (tIsN ta) := by
  intro pins s σ H Q I h
  refine thn (ha pins s σ H _ I h) fun v s1 ⟨x, H1, I1, r1, q1⟩ => ?_
  exact Constant_none (is_none_gen ⟨.bl _, H1, I1, by rw [r1.none_iff]; rfl, q1⟩)
theorem pc_notN {j pos'} (ha : PE X a ta) : PC X .IsNot a (.Constant .none j pos') (tNotN ta) := by
  intro pins s σ H Q I h
  refine thn (ha pins s σ H _ I h) fun v s1 ⟨x, H1, I1, r1, q1⟩ => ?_
  exact Constant_none (isnot_none_gen ⟨.bl _, H1, I1, by rw [r1.none_iff]; rfl, q1⟩)
def tB (t : TE) : TT := fun σ H Q => t σ H fun x H1 => ∃ c, x = .bl c ∧ Q c H1
theorem qgo {op : CmpOp} {t : TE} (h : PC X op a b t) (h1 : behindInMarks op b = false := by first | exact nobehind _ (by decide) (by decide) | rfl) : PT X (.Compare a [op] [b] pos) (tB t) := by
  intro pins s σ H Q I hw
  refine wpAny_isTrue_Compare1 (thn (h pins s σ H _ I hw) fun v s1 h1 => thn h1 fun u s2 h2 => thn h2 fun c s3 ⟨x, H1, I1, r1, q1⟩ => ?_) h1
  obtain ⟨d, rfl, q⟩ := q1
  cases r1
  exact wpAny_truthy_bool ⟨H1, I1, q⟩
theorem qcz {e : Expr} {t : TE} (h : PE X e t) (he : ∀ whole, isTrue e X.env whole = (do let v ← whole; standAt e.pos; holding [v] (truthy v)) := by intro _; rfl) : PT X e (tB t) := by
  intro pins s σ H Q I hw
  refine isTrue_plain (thn (h pins s σ H _ I hw) fun v s1 ⟨x, H1, I1, r1, q1⟩ => ?_) (he _)
  obtain ⟨d, rfl, q⟩ := q1
  cases r1
  exact wpAny_truthy_bool ⟨H1, I1, q⟩
variable {tA tB' : TT} {rest : List Expr}
def tAnd (t u : TT) : TT := fun σ H Q => t σ H fun c H1 => if c = true then u σ H1 Q else Q false H1
def tOr (t u : TT) : TT := fun σ H Q => t σ H fun c H1 => if c = true then Q true H1 else u σ H1 Q
def tNot (t : TT) : TT := fun σ H Q => t σ H fun c H1 => Q (!c) H1
theorem yc2 (ha : PT X a tA) : PW X (.BoolOp .And [a] pos) tA := by
  intro wh pins s σ H Q I h
  refine isTrue_and (thn (ha pins s σ H Q I h) fun c s1 e => ?_)
  cases c with
  | true => exact isTrue_and_nil e
  | false => exact e
theorem ygr (ha : PT X a tA) : PW X (.BoolOp .Or [a] pos) tA := by
  intro wh pins s σ H Q I h
  refine isTrue_or (thn (ha pins s σ H Q I h) fun c s1 e => ?_)
  cases c with
  | false => exact isTrue_or_nil e
  | true => exact e
theorem ydi (ha : PT X a tA) (hb : PW X (.BoolOp .And (b :: rest) pos) tB') : PW X (.BoolOp .And (a :: b :: rest) pos) (tAnd tA tB') := by
  intro wh pins s σ H Q I h
  refine isTrue_and (thn (ha pins s σ H _ I h) fun c s1 ⟨H1, I1, q1⟩ => ?_)
  cases c with
  | true => exact hb wh pins s1 σ H1 Q I1 q1
  | false => exact ⟨H1, I1, q1⟩
theorem qi7 (ha : PT X a tA) (hb : PW X (.BoolOp .Or (b :: rest) pos) tB') : PW X (.BoolOp .Or (a :: b :: rest) pos) (tOr tA tB') := by
  intro wh pins s σ H Q I h
  refine isTrue_or (thn (ha pins s σ H _ I h) fun c s1 ⟨H1, I1, q1⟩ => ?_)
  cases c with
  | true => exact ⟨H1, I1, q1⟩
  | false => exact hb wh pins s1 σ H1 Q I1 q1
theorem qdk (ha : PT X a tA) : PT X (.UnaryOp .Not a pos) (tNot tA) := by
  intro pins s σ H Q I h
  exact isTrue_not (ha pins s σ H (fun c H1 => Q (!c) H1) I h)
def tAndV (ta tb : TE) : TE := fun σ H Q => ta σ H fun x H1 => ∃ c, x = .bl c ∧ if c = true then tb σ H1 Q else Q (.bl false) H1
def tNotV (ta : TE) : TE := fun σ H Q => ta σ H fun x H1 => ∃ c, x = .bl c ∧ Q (.bl (!c)) H1
theorem qbw {op} {t : TE} (h : PE X a t) : PE X (.BoolOp op [a] pos) t := fun pins s σ H Q I hw => BoolOp_one (h pins s σ H Q I hw)
theorem ya6 (ha : PE X a ta) (hb : PE X (.BoolOp .And (b :: rest) pos) tb) : PE X (.BoolOp .And (a :: b :: rest) pos) (tAndV ta tb) := by
  intro pins s σ H Q I h
  refine BoolOp_and (thn (ha pins s σ H _ I h) fun v s1 ⟨x, H1, I1, r1, q1⟩ => ?_)
  obtain ⟨c, rfl, q1⟩ := q1
  cases r1
  refine wpAny_truthy_bool ?_
  cases c with
  | true => exact hb pins s1 σ H1 Q I1 q1
  | false => exact ⟨.bl false, H1, I1, rfl, q1⟩
theorem pe_not (ha : PE X a ta) : PE X (.UnaryOp .Not a pos) (tNotV ta) := by
  intro pins s σ H Q I h
  refine UnaryOp_ (thn (ha pins s σ H _ I h) fun v s1 ⟨x, H1, I1, r1, q1⟩ => ?_)
  obtain ⟨c, rfl, q1⟩ := q1
  cases r1
  exact not_of (wpAny_truthy_bool ⟨.bl (!c), H1, I1, rfl, q1⟩)
def tIf (t : TT) (ta tb : TE) : TE := fun σ H Q => t σ H fun c H1 => if c = true then ta σ H1 Q else tb σ H1 Q
theorem yhz {c : Expr} (hc : PT X c tA) (ha : PE X a ta) (hb : PE X b tb) : PE X (.IfExp c a b pos) (tIf tA ta tb) := by
  intro pins s σ H Q I h
  refine wpAny_IfExp (thn (hc pins s σ H _ I h) fun d s1 ⟨H1, I1, q1⟩ => ?_)
  cases d with
  | true => exact ha pins s1 σ H1 Q I1 q1
  | false => exact hb pins s1 σ H1 Q I1 q1
end
def SqL (K : PySem.W.Frag) (H : Hp) (a : Addr) (xs : List V) : Prop :=
  Rd H a (.lst xs) ∨
    ∃ (o : Obj) (its : Array Value) (n : Nat), K.lookup a = some o ∧ o.cls = .type "list" ∧ o.dict = none ∧ o.data = .seq its n ∧ its.size ≤ sizeLine ∧ Vals xs its.toList
def SqT (K : PySem.W.Frag) (H : Hp) (a : Addr) (xs : List V) : Prop :=
  Rd H a (.tup xs) ∨
    ∃ (o : Obj) (its : Array Value) (n : Nat), K.lookup a = some o ∧ o.cls = .type "tuple" ∧ o.data = .seq its n ∧ its.size ≤ sizeLine ∧ Vals xs its.toList
def absV : Value → Option V
  | .none => some .non
  | .bool b => some (.bl b)
  | .int i _ => some (.int i)
  | .str x _ => some (.str x)
  | .bytes b _ => some (.byt b)
  | .float b _ => some (.flt b)
  | .ref a => some (.ref a)
  | .type n => some (.ty n)
  | _ => none
theorem RelV.abs {x : V} {u : Value} (r : RelV x u) : absV u = some x := by
  cases x with
  | non => cases r; rfl
  | bl _ => cases r; rfl
  | int _ => obtain ⟨t, rfl⟩ := r; rfl
  | str _ => obtain ⟨t, rfl⟩ := r; rfl
  | byt _ => obtain ⟨t, rfl⟩ := r; rfl
  | flt _ => obtain ⟨t, rfl⟩ := r; rfl
  | ref _ => cases r; rfl
  | ty _ => cases r; rfl
theorem RelV.inj {x y : V} {u : Value} (r : RelV x u) (q : RelV y u) : x = y := Option.some.inj (r.abs.symm.trans q.abs)
theorem Vals.inj : ∀ {xs ys : List V} {us : List Value}, Vals xs us → Vals ys us → xs = ys
  | _, _, _, .nil, .nil => rfl
  | _, _, _, .cons r t, .cons r' t' => by rw [r.inj r', Vals.inj t t']
section
variable {X : Cx} {pins : List (Addr × Obj)} {σ : St} {H : Hp} {s : Shared} {a : Addr} {xs ys : List V}
theorem SqL.of {K : PySem.W.Frag} (h : H a = some (.lst xs)) : SqL K H a xs := .inl (.inl h)
theorem SqT.of {K : PySem.W.Frag} (h : H a = some (.tup xs)) : SqT K H a xs := .inl (.inl h)
theorem Inv.list (I : Inv X pins σ H s) (h : SqL X.K H a xs) : ∃ its : List Value, Vals xs its ∧ PlainL s.heap a its.toArray ∧ xs.length ≤ sizeLine := by
  rcases h with h | ⟨o, its, n, hk, hc, hd, hs, hz, r⟩
  · obtain ⟨z, its, n, r, e⟩ := h.ok I.hok
    exact ⟨its, r, ⟨_, n, e, rfl, rfl, rfl⟩, z⟩
  · refine ⟨its.toList, r, ⟨o, n, I.kIn a o hk, hc, hd, by simpa using hs⟩, ?_⟩
    have e := r.length
    simp only [Array.length_toList] at e
    omega
theorem Inv.tuple (I : Inv X pins σ H s) (h : SqT X.K H a xs) : ∃ its : List Value, Vals xs its ∧ IsTup s.heap a its.toArray ∧ xs.length ≤ sizeLine := by
  rcases h with h | ⟨o, its, n, hk, hc, hs, hz, r⟩
  · obtain ⟨z, its, r, p⟩ := h.ok I.hok
    exact ⟨its, r, p, z⟩
  · refine ⟨its.toList, r, ⟨o, I.kIn a o hk, hc, n, by simpa using hs⟩, ?_⟩
    have e := r.length
    simp only [Array.length_toList] at e
    omega
theorem Inv.list_inj (I : Inv X pins σ H s) (h : SqL X.K H a xs) (h' : SqL X.K H a ys) : xs = ys := by
  obtain ⟨its, r, ⟨o, n, e, _, _, d⟩, _⟩ := I.list h
  obtain ⟨its', r', ⟨o', n', e', _, _, d'⟩, _⟩ := I.list h'
  rw [e] at e'; cases e'
  rw [d] at d'
  injection d' with d1 _
  have : its = its' := by simpa using congrArg Array.toList d1
  subst this
  exact r.inj r'
theorem Inv.tuple_inj (I : Inv X pins σ H s) (h : SqT X.K H a xs) (h' : SqT X.K H a ys) : xs = ys := by
  obtain ⟨its, r, ⟨o, e, _, n, d⟩, _⟩ := I.tuple h
  obtain ⟨its', r', ⟨o', e', _, n', d'⟩, _⟩ := I.tuple h'
  rw [e] at e'; cases e'
  rw [d] at d'
  injection d' with d1 _
  have : its = its' := by simpa using congrArg Array.toList d1
  subst this
  exact r.inj r'
end
abbrev Cx.wish (X : Cx) (E : Value → Shared → Prop) : Cx := { X with xe := E }
abbrev Cx.nox (X : Cx) : Cx := X.wish fun _ _ => False
theorem Cx.Ok.wish {X : Cx} (ok : X.Ok) (E : Value → Shared → Prop) : (X.wish E).Ok :=
  ⟨ok.mod, ok.kind, ok.glob, ok.blt, ok.above, ok.inj, ok.has, ok.cab, ok.hd, ok.frames, ok.stk, ok.exf, ok.bs, ok.bsz, ok.noex, ok.exfs, ok.funs, ok.frf⟩
theorem Cx.Ok.unwish {X : Cx} {E : Value → Shared → Prop} (ok : (X.wish E).Ok) : X.Ok :=
  ⟨ok.mod, ok.kind, ok.glob, ok.blt, ok.above, ok.inj, ok.has, ok.cab, ok.hd, ok.frames, ok.stk, ok.exf, ok.bs, ok.bsz, ok.noex, ok.exfs, ok.funs, ok.frf⟩
section
variable {X : Cx} {pins : List (Addr × Obj)} {σ : St} {H : Hp} {s : Shared} {E : Value → Shared → Prop}
theorem Inv.wish (I : Inv X pins σ H s) (E : Value → Shared → Prop) : Inv (X.wish E) pins σ H s := ⟨I.ok.wish E, I.os, I.bare, I.base, I.loc, I.cell, I.free, I.freeC, I.pin, I.hok, I.len⟩
theorem Inv.unwish (I : Inv (X.wish E) pins σ H s) : Inv X pins σ H s := ⟨I.ok.unwish, I.os, I.bare, I.base, I.loc, I.cell, I.free, I.freeC, I.pin, I.hok, I.len⟩
theorem SP.unwish {D : Ends} {f : Flow} {s' : Shared} (h : SP (X.wish E) pins D f s') : SP X pins D f s' := by
  cases f with
  | next => obtain ⟨σ', H', I, q⟩ := h; exact ⟨σ', H', I.unwish, q⟩
  | brk => obtain ⟨σ', H', I, q⟩ := h; exact ⟨σ', H', I.unwish, q⟩
  | cont => obtain ⟨σ', H', I, q⟩ := h; exact ⟨σ', H', I.unwish, q⟩
  | ret u => obtain ⟨v, σ', H', I, r, q⟩ := h; exact ⟨v, σ', H', I.unwish, r, q⟩
theorem PSs.nox {st : List Stmt} {t : TS} (h : PSs X.nox st t) : PSs X st t := fun pins s σ H D I hw =>
  wpAny_mono (h pins s σ H D (I.wish _) hw) (fun _ _ q => q.unwish) fun _ _ z => False.elim z
end
section
variable {X : Cx} {st : Stmt} {rest : List Stmt} {t u : TS} {e : Expr} {te : TE} {pos : Pos}
def tNext : TS := fun D σ H => D.nx σ H
def tSeq (t u : TS) : TS := fun D σ H => t { D with nx := u D } σ H
theorem ya0 : PSs X [] tNext := fun _ _ σ H _ I h => wpAny_execs_nil ⟨σ, H, I, h⟩
theorem yak (h1 : PS X st t) (h2 : PSs X rest u) : PSs X (st :: rest) (tSeq t u) := by
  intro pins s σ H D I h
  refine wpAny_execs_cons (thn (h1 pins s σ H { D with nx := u D } I h) fun f s1 q => ?_)
  cases f with
  | next =>
    obtain ⟨σ', H', I', q⟩ := q
    exact h2 pins s1 σ' H' D I' q
  | ret v => exact q
  | brk => exact q
  | cont => exact q
theorem yae (h1 : PS X st t) : PSs X [st] t := by
  intro pins s σ H D I h
  refine wpAny_execs_cons (thn (h1 pins s σ H D I h) fun f s1 q => ?_)
  cases f with
  | next => exact wpAny_execs_nil q
  | ret v => exact q
  | brk => exact q
  | cont => exact q
theorem Inv.quiet {pins : List (Addr × Obj)} {σ : St} {H : Hp} {s : Shared} (I : Inv X pins σ H s) : interactive X.env = false := by simp [interactive, I.ok.kind]
def tDrop (te : TE) : TS := fun D σ H => te σ H fun _ H1 => D.nx σ H1
theorem qcb (he : PE X e te) (hs : swapsWith e none pos.line X.env = pure false := by rfl) : PS X (.Expr e pos) (tDrop te) := by
  intro pins s σ H D I h
  exact wpAny_Expr_any (thn (he pins s σ H _ I h) fun v s1 ⟨x, H1, I1, r1, q1⟩ => ⟨σ, H1, I1, q1⟩) I.quiet hs
def tRet (te : TE) : TS := fun D σ H => te σ H D.rt
theorem qaw (he : PE X e te) : PS X (.Return (some e) pos) (tRet te) := by
  intro pins s σ H D I h
  exact wpAny_Return_some (thn (he pins s σ H _ I h) fun v s1 ⟨x, H1, I1, r1, q1⟩ => ⟨x, σ, H1, I1, r1, q1⟩)
def tRetN : TS := fun D _ H => D.rt .non H
theorem ps_retN : PS X (.Return none pos) tRetN := fun _ _ σ H _ I h => wpAny_Return_none ⟨.non, σ, H, I, rfl, h⟩
def tIfS (c : TT) (t u : TS) : TS := fun D σ H => c σ H fun b H1 => if b = true then t D σ H1 else u D σ H1
theorem qb4 {c : Expr} {a b : List Stmt} {tc : TT} (hc : PT X c tc) (ha : PSs X a t) (hb : PSs X b u) : PS X (.If c a b pos) (tIfS tc t u) := by
  intro pins s σ H D I h
  refine wpAny_If (thn (hc pins s σ H _ I h) fun d s1 ⟨H1, I1, q1⟩ => ?_)
  cases d with
  | true => exact ha pins s1 σ H1 D I1 q1
  | false => exact hb pins s1 σ H1 D I1 q1
def yjn : TS := fun _ _ _ => False
theorem qcf : PS X st yjn := fun _ _ _ _ _ _ h => h.elim
theorem yke {sts : List Stmt} : PSs X sts yjn := fun _ _ _ _ _ _ h => h.elim
end
abbrev TG := V → St → Hp → (St → Hp → Prop) → Prop
abbrev TGs := List V → St → Hp → (St → Hp → Prop) → Prop
def PG (X : Cx) (target : Expr) (t : TG) : Prop :=
  ∀ (pins : List (Addr × Obj)) (s : Shared) (σ : St) (H : Hp) (v : V) (u : Value) (Q : St → Hp → Prop), Inv X pins σ H s → RelV v u → t v σ H Q →
    wpAny (model X.prog X.w) X.A (assign target X.env u) (fun _ s' => ∃ σ' H', Inv X pins σ' H' s' ∧ Q σ' H') X.xe s
def PGs (X : Cx) (ts : List Expr) (t : TGs) : Prop :=
  ∀ (pins : List (Addr × Obj)) (s : Shared) (σ : St) (H : Hp) (vs : List V) (us : List Value) (Q : St → Hp → Prop), Inv X pins σ H s → Vals vs us → t vs σ H Q →
    wpAny (model X.prog X.w) X.A (assignInOrder ((assignEach ts X.env).map (·.2)) us) (fun _ s' => ∃ σ' H', Inv X pins σ' H' s' ∧ Q σ' H') X.xe s
abbrev TSet := V → V → V → Hp → (Hp → Prop) → Prop
def PSet (X : Cx) (t : TSet) : Prop :=
  ∀ (pins : List (Addr × Obj)) (s : Shared) (σ : St) (H : Hp) (o i v : V) (ov iv u : Value) (Q : Hp → Prop), Inv X pins σ H s → RelV o ov → RelV i iv → RelV v u → t o i v H Q →
    wpAny (model X.prog X.w) X.A (setItem ov iv u) (fun _ s' => ∃ H', Inv X pins σ H' s' ∧ Q H') X.xe s
section
variable {X : Cx} {pos : Pos}
def yft (i : Nat) : TG := fun v σ H Q => Q (σ.set i (some v)) H
theorem qan {i : Nat} {x : Str} (hN : X.N.Nodup) (hi : X.N[i]? = some x) (hx : Loc X.env.scope x) (hf : X.fn x = true ∨ X.env.scope.names.lookup x = some .local := by first | exact .inl rfl | exact .inr rfl | assumption) : PG X (.Name x pos) (yft i) := by
  intro pins s σ H v u Q I r h
  exact wpAny_assign_Name (qet I hN hi hx r (fun s' I' => ⟨_, H, I', h⟩) hf)
def gNil : TGs := fun vs σ H Q => vs = [] ∧ Q σ H
def gCons (t : TG) (u : TGs) : TGs := fun vs σ H Q => ∃ v r, vs = v :: r ∧ t v σ H fun σ' H' => u r σ' H' Q
theorem ycu : PGs X [] gNil := by
  intro pins s σ H vs us Q I r h
  obtain ⟨e, h⟩ := h
  subst e
  cases r
  exact assignInOrder_nil ⟨σ, H, I, h⟩
theorem qa2 {e : Expr} {es : List Expr} {t : TG} {u : TGs} (h1 : PG X e t) (h2 : PGs X es u)
    (hs : (assignEach (e :: es) X.env).map (·.2) = assign e X.env :: (assignEach es X.env).map (·.2) := by rfl) : PGs X (e :: es) (gCons t u) := by
  intro pins s σ H vs us Q I r h
  obtain ⟨v, vr, e1, h⟩ := h
  subst e1
  cases r with
  | cons r rr =>
    rw [hs]
    refine assignInOrder_cons (thn (h1 pins s σ H _ _ _ I r h) fun _ s1 ⟨σ1, H1, I1, q1⟩ => ?_)
    exact h2 pins s1 σ1 H1 _ _ Q I1 rr q1
def gTup (K : PySem.W.Frag) (n : Nat) (t : TGs) : TG := fun v σ H Q => ∃ a xs, v = .ref a ∧ SqT K H a xs ∧ xs.length = n ∧ t xs σ H Q
theorem qf4 {es : List Expr} {k : Nat} {t : TGs} {n : Nat} (hc : X.calm = true) (h : PGs X es t)
    (hn : (assignEach es X.env).length = n := by rfl) (hst : (assignEach es X.env).findIdx? (·.1) = none := by rfl) : PG X (.Tuple es k pos) (gTup X.K n t) := by
  intro pins s σ H v u Q I r hw
  obtain ⟨a, xs, e1, hq, hl, hw⟩ := hw
  subst e1
  cases r
  obtain ⟨its, rv, ht, hz⟩ := I.tuple hq
  refine assign_Tuple_tuple (I.ok.hd hc) ht (by simp [hn, ← hl, rv.length]) hst fun h' hx => ?_
  have I1 : Inv X pins σ H { s with heap := h' } := I.kept (t' := s.toks) fun b o e => hx b o (Nat.ne_of_lt (Heap.lt_size e)) e
  exact h pins _ σ H xs _ Q I1 (by simpa using rv) hw
def gSub (to ti : TE) (t : TSet) : TG := fun v σ H Q => to σ H fun o H1 => ti σ H1 fun i H2 => t o i v H2 fun H3 => Q σ H3
theorem qfv {o i : Expr} {to ti : TE} {t : TSet} (ho : PE X o to) (hi : PE X i ti) (hs : PSet X t)
    (ha : ∀ v, assign (.Subscript o i pos) X.env v = (do
      let ov ← holding [v] (eval o X.env)
      let iv ← holding [v, ov] (eval i X.env)
      standAt pos
      holding [v, ov, iv] (setItem ov iv v)
      release [v, ov, iv] []) := by intro _; rfl) : PG X (.Subscript o i pos) (gSub to ti t) := by
  intro pins s σ H v u Q I r h
  rw [ha]
  refine wpAny_bind (wpAny_holding (thn (ho pins s σ H _ I h) fun ov s1 ⟨x, H1, I1, r1, q1⟩ => ?_))
  refine wpAny_bind (wpAny_holding (thn (hi pins s1 σ H1 _ I1 q1) fun iv s2 ⟨y, H2, I2, r2, q2⟩ => ?_))
  refine wpAny_bind (wpAny_standAt (wpAny_bind (wpAny_holding (thn (hs pins s2 σ H2 x y v ov iv u _ I2 r1 r2 r q2) fun _ s3 ⟨H3, I3, q3⟩ => ?_))))
  exact wpAny_release ⟨σ, H3, I3, q3⟩
def tAsg (te : TE) (g : TG) : TS := fun D σ H => te σ H fun x H1 => g x σ H1 D.nx
theorem qj8 {tg e : Expr} {te : TE} {g : TG} (he : PE X e te) (hg : PG X tg g) (hs : swapsWithSole [tg] e pos.line X.env = pure false := by rfl) (hw : swappedStores [tg] e X.env = pure none := by rfl)
    (h1 : (assignEach [tg] X.env).map (·.2) = [assign tg X.env] := by rfl) : PS X (.Assign [tg] e pos) (tAsg te g) := by
  intro pins s σ H D I h
  refine wpAny_Assign_stores (thn (he pins s σ H _ I h) fun v s1 ⟨x, H1, I1, r1, q1⟩ => ?_) hs hw
  rw [h1]
  exact thn (hg pins s1 σ H1 x v _ I1 r1 q1) fun _ s2 q => q
theorem qbq {i : Nat} {x : Str} {e : Expr} {te : TE} {pos' : Pos} (hN : X.N.Nodup) (hi : X.N[i]? = some x) (hx : Loc X.env.scope x) (he : PE X e te) (hs : swapsWith e (some (.Name x pos')) pos.line X.env = pure false := by rfl) (hf : X.fn x = true ∨ X.env.scope.names.lookup x = some .local := by first | exact .inl rfl | exact .inr rfl | assumption) :
    PS X (.Assign [.Name x pos'] e pos) (tAsg te (yft i)) := by
  intro pins s σ H D I h
  refine wpAny_Assign_Name (thn (he pins s σ H _ I h) fun v s1 ⟨y, H1, I1, r1, q1⟩ => ?_) hs
  exact qet I1 hN hi hx r1 (fun s2 I2 => ⟨_, H1, I2, q1⟩) hf
end
section
variable {X : Cx} {pos : Pos}
end
structure It where
  go : Nat → Hp → Prop
  yld : Nat → Hp → V → Hp → Prop
  stop : Nat → Hp → Prop
def FpOk (X : Cx) (pins : List (Addr × Obj)) (H : Hp) (b : Addr) : Prop :=
  H b = none ∧ b ≠ X.env.locals ∧ b ∉ X.fs ∧ (b ∈ X.ex ∨ X.s₀.heap.objs.size ≤ b) ∧ (∀ x c, X.env.cells.lookup x = some c → c ≠ b) ∧ ∀ p ∈ X.pn ++ pins, p.1 ≠ b
theorem Inv.fpOk {X : Cx} {pins : List (Addr × Obj)} {σ : St} {H H' : Hp} {s : Shared} {b : Addr} (I : Inv X pins σ H s) (hb : s.heap.objs.size ≤ b) (hn : H' b = none) : FpOk X pins H' b := by
  refine ⟨hn, Nat.ne_of_gt (Nat.lt_of_lt_of_le I.lt hb), I.nofs hb, .inr (Nat.le_trans I.sz hb), fun x c e z => ?_, fun p hp z => ?_⟩
  · obtain ⟨v, q⟩ := I.cell x c e
    exact absurd (Nat.lt_of_lt_of_le q.lt (by rw [z]; exact hb)) (Nat.lt_irrefl _)
  · exact absurd (Nat.lt_of_lt_of_le (Heap.lt_size (I.pin p hp).1) (by rw [z]; exact hb)) (Nat.lt_irrefl _)
structure Turn (P : Program) (w : World) (K : PySem.W.Frag) (tg : Expr) (J : It) (fp : List Addr) (it : Addr) (tn : Nat → Heap → Prop) : Prop where
  mem : it ∈ fp
  obj : ∀ i h, tn i h → ∀ b ∈ fp, ∃ o, h.get? b = some o ∧ ∀ v, o.data ≠ .cell v
  keep : ∀ i h h', tn i h → (∀ b ∈ fp, ∀ o, h.get? b = some o → h'.get? b = some o) → tn i h'
  item : ∀ (X : Cx), X.prog = P → X.w = w → X.K = K → X.calm = true → ∀ (i : Nat) (pins : List (Addr × Obj)) (s : Shared) (σ : St) (H : Hp) (E : Value → Shared → Prop), Inv X pins σ H s → (∀ b ∈ fp, FpOk X pins H b) → tn i s.heap → J.go i H →
    wpAny (model P w) X.A (pyNext (.ref it)) (fun r s1 => ∃ u, r = some u ∧
      wpAny (model P w) X.A (letOwnedTupleGo tg (.ref it) u) (fun _ s2 => ∃ x H', Inv X pins σ H' s2 ∧ RelV x u ∧ J.yld i H x H' ∧ tn (i + 1) s2.heap ∧ ∀ b ∈ fp, H' b = none) E s1) E s
  done : ∀ (X : Cx), X.prog = P → X.w = w → X.K = K → X.calm = true → ∀ (i : Nat) (pins : List (Addr × Obj)) (s : Shared) (σ : St) (H : Hp) (E : Value → Shared → Prop), Inv X pins σ H s → (∀ b ∈ fp, FpOk X pins H b) → tn i s.heap → J.stop i H →
    wpAny (model P w) X.A (pyNext (.ref it)) (fun r s1 => r = none ∧ Inv X pins σ H s1) E s
  self : ∀ (A : Around) (i : Nat) (s : Shared) (Q : Value → Shared → Prop) (E : Value → Shared → Prop), tn i s.heap → Q (.ref it) s → wpAny (model P w) A (pyIter (.ref it)) Q E s
abbrev TI := St → Hp → (It → Hp → Prop) → Prop
def PIE (X : Cx) (pins : List (Addr × Obj)) (σ : St) (tg : Expr) (R : It → Hp → Prop) (itv : Value) (s2 : Shared) : Prop :=
  ∃ (it : Addr) (fp : List Addr) (tn : Nat → Heap → Prop) (J : It) (H' : Hp), itv = .ref it ∧ Inv X pins σ H' s2 ∧ Turn X.prog X.w X.K tg J fp it tn ∧ tn 0 s2.heap ∧ (∀ b ∈ fp, FpOk X pins H' b) ∧ R J H'
def PI (X : Cx) (tg iter : Expr) (wi : TI) : Prop :=
  ∀ (pins : List (Addr × Obj)) (s : Shared) (σ : St) (H : Hp) (R : It → Hp → Prop), Inv X pins σ H s → wi σ H R →
    wpAny (model X.prog X.w) X.A (eval iter X.env) (fun v s1 => wpAny (model X.prog X.w) X.A (pyIter v) (PIE X pins σ tg R) X.xe s1) X.xe s
theorem go_of {M : Model} {A : Around} {E : Value → Shared → Prop} {s : Shared} {tg : Expr} {it : Addr} {u : Value} {o : Obj} {n : String} {vs : Array Value} {Q : Unit → Shared → Prop} (ho : s.heap.get? it = some o) (hc : o.cls = .type n) (hd : o.data = .fields vs)
    (hn : ["enumerate", "zip", "dict_itemiterator", "dict_reverseitemiterator", "odict_iterator", "itertools.zip_longest", "itertools.pairwise"].contains n = false) (hQ : Q () s) : wpAny M A (letOwnedTupleGo tg (.ref it) u) Q E s := by
  unfold letOwnedTupleGo
  cases tg <;> first
    | exact wpAny_pure hQ
    | (cases u <;> first
        | exact wpAny_pure hQ
        | (refine wpAny_bind (wpAny_load ho ?_)
           rw [hc, hd]
           show wpAny M A (if (["enumerate", "zip", "dict_itemiterator", "dict_reverseitemiterator", "odict_iterator", "itertools.zip_longest", "itertools.pairwise"].contains n && vs[0]? == some (rawInt _)) = true then _ else _) Q E s
           rw [if_neg (by intro h; rw [hn, Bool.false_and] at h; cases h)]
           exact wpAny_pure hQ))
def Itl (K : PySem.W.Frag) (a : Addr) : It :=
  ⟨fun i H => ∃ xs x, SqL K H a xs ∧ xs[i]? = some x, fun i H x H' => H' = H ∧ ∀ xs, SqL K H a xs → xs[i]? = some x, fun i H => ∃ xs, SqL K H a xs ∧ xs.length ≤ i⟩
def Itr (lo : Int) (n : Nat) : It := ⟨fun i _ => i < n, fun i H x H' => H' = H ∧ x = .int (lo + i), fun i _ => n ≤ i⟩
theorem qi3 {P : Program} {w : World} {K : PySem.W.Frag} {tg : Expr} (a it : Addr) : Turn P w K tg (Itl K a) [it] it (fun i h => h.IsListIter it a i) where
  mem := by simp
  obj := fun i h st b hb => by
    have e : b = it := by simpa using hb
    subst e
    obtain ⟨o, e, c, d⟩ := st
    exact ⟨o, e, fun v z => by rw [d] at z; cases z⟩
  keep := fun i h h' st k => st.at fun o e => k it (by simp) o e
  item := by
    intro X hP hw hK hc i pins s σ H E I hf st hg
    subst hP hw hK
    obtain ⟨xs, x, hq, hx⟩ := hg
    obtain ⟨its, rv, p, hz⟩ := I.list hq
    obtain ⟨u, hu, ru⟩ := rv.get hx
    obtain ⟨f0, f1, f2, f3, f4, f5⟩ := hf it (by simp)
    refine wpAny_pyNext_list_item st p.isList (x := u) (by simpa using hu) fun h' st' sb => ?_
    have I1 : Inv X pins σ H { s with heap := h' } := I.turned (t' := s.toks) (fun b o hb e => (sb.2 b hb).trans e) f0 f1 f3 f4 f5
    obtain ⟨o, e, c, d⟩ := id st'
    exact ⟨u, rfl, go_of (s := { s with heap := h' }) e c d (by decide) ⟨x, H, I1, ru, ⟨rfl, fun ys hy => by rw [I.list_inj hy hq]; exact hx⟩, st', fun b hb => (hf b hb).1⟩⟩
  done := by
    intro X hP hw hK hc i pins s σ H E I hf st hg
    subst hP hw hK
    obtain ⟨xs, hq, hx⟩ := hg
    obtain ⟨its, rv, p, hz⟩ := I.list hq
    obtain ⟨f0, f1, f2, f3, f4, f5⟩ := hf it (by simp)
    have hl := rv.length
    exact wpAny_pyNext_list_end (I.ok.hd hc) st p.isList (by simp; omega) fun h' eb => ⟨rfl, I.turned (t' := s.toks) (fun b o hb e => eb b o hb e) f0 f1 f3 f4 f5⟩
  self := fun _ _ _ _ _ st h => wpAny_pyIter_listiter st h
theorem qiu {P : Program} {w : World} {K : PySem.W.Frag} {tg : Expr} (it : Addr) (lo : Int) (n : Nat) : Turn P w K tg (Itr lo n) [it] it (fun i h => IsRangeIter h it (lo + (i : Nat) * 1) ((n : Int) - (i : Nat)) 1) where
  mem := by simp
  obj := fun i h st b hb => by
    have e : b = it := by simpa using hb
    subst e
    exact ⟨_, st, fun v z => by
      have z' : Data.fields _ = Data.cell v := z
      cases z'⟩
  keep := fun i h h' st k => k it (by simp) _ st
  item := by
    intro X hP hw hK hc i pins s σ H E I hf st hg
    subst hP hw hK
    obtain ⟨f0, f1, f2, f3, f4, f5⟩ := hf it (by simp)
    have W := Walks.range (prog := X.prog) (w := X.w) (I.ok.hd hc) it lo 1 n
    refine W.item i s _ _ hg st fun v h' tk hv st' kk => ?_
    obtain ⟨t, rfl⟩ := hv
    have I1 : Inv X pins σ H { s with heap := h', toks := tk } := I.turned (fun b o hb e => kk b o (by simpa using hb) e) f0 f1 f3 f4 f5
    refine ⟨_, rfl, go_of (s := { s with heap := h', toks := tk }) (n := "range_iterator") st' rfl rfl (by decide) ⟨.int (lo + i), H, I1, ⟨t, ?_⟩, ⟨rfl, rfl⟩, st', fun b hb => (hf b hb).1⟩⟩
    rw [Int.mul_one]
  done := by
    intro X hP hw hK hc i pins s σ H E I hf st hg
    subst hP hw hK
    obtain ⟨f0, f1, f2, f3, f4, f5⟩ := hf it (by simp)
    exact wpAny_pyNext_range_end (I.ok.hd hc) st (by have : n ≤ i := hg; omega) fun h' eb => ⟨rfl, I.turned (t' := s.toks) (fun b o hb e => eb b o hb e) f0 f1 f3 f4 f5⟩
  self := fun _ _ _ _ _ st h => wpAny_pyIter_rangeiter st h
section
variable {X : Cx} {tg : Expr}
def iList (K : PySem.W.Frag) (tl : TE) : TI := fun σ H R => tl σ H fun x H1 => ∃ a, x = .ref a ∧ (∃ xs, SqL K H1 a xs) ∧ R (Itl K a) H1
theorem qb5 {l : Expr} {tl : TE} (hl : PE X l tl) : PI X tg l (iList X.K tl) := by
  intro pins s σ H R I h
  refine thn (hl pins s σ H _ I h) fun v s1 ⟨x, H1, I1, r1, q1⟩ => ?_
  obtain ⟨a, e, ⟨xs, hq⟩, q⟩ := q1
  subst e
  cases r1
  obtain ⟨its, rv, p, hz⟩ := I1.list hq
  refine wpAny_pyIter_list p.isList ?_
  refine ⟨s1.heap.objs.size, [s1.heap.objs.size], _, _, H1, rfl, I1.kept (t' := s1.toks) fun b o e => Heap.get?_push_of_some _ e, qi3 a _, ⟨_, Heap.get?_push_size _ rfl, rfl, rfl⟩, fun b hb => ?_, q⟩
  have e : b = s1.heap.objs.size := by simpa using hb
  subst e
  exact I1.fpOk (Nat.le_refl _) (I1.hok.fresh (Nat.le_refl _))
theorem range_it {pins : List (Addr × Obj)} {σ : St} {H : Hp} {s : Shared} {R : It → Hp → Prop} {E : Value → Shared → Prop} {lo hi : Int} {t u v : Tok} {tk : Nat} (I : Inv X pins σ H s) (h1 : -(2 ^ 62) ≤ lo) (h2 : lo < 2 ^ 62) (h3 : -(2 ^ 62) ≤ hi) (h4 : hi < 2 ^ 62)
    (q : R (Itr lo (hi - lo).toNat) H) : wpAny (model X.prog X.w) X.A (pyIter (.ref s.heap.objs.size)) (PIE X pins σ tg R) E { s with heap := s.heap.push { cls := .type "range", data := .fields #[.int lo t, .int hi u, .int 1 v] }, toks := tk } := by
  refine wpAny_pyIter_range (IsRange.new ..) (small_one h1 h2 h3 h4) ?_
  have I1 : Inv X pins σ H { s with heap := s.heap.push { cls := .type "range", data := .fields #[.int lo t, .int hi u, .int 1 v] }, toks := tk } := I.kept fun b o e => Heap.get?_push_of_some _ e
  refine ⟨(s.heap.push { cls := .type "range", data := .fields #[.int lo t, .int hi u, .int 1 v] }).objs.size, [(s.heap.push { cls := .type "range", data := .fields #[.int lo t, .int hi u, .int 1 v] }).objs.size], _, _, H, rfl,
    I1.kept (t' := tk) fun b o e => Heap.get?_push_of_some _ e, qiu _ lo (hi - lo).toNat, ?_, fun b hb => ?_, q⟩
  · have e1 : lo + ((0 : Nat) : Int) * 1 = lo := by simp
    have e2 : (((hi - lo).toNat : Nat) : Int) - ((0 : Nat) : Int) = Builtin.Range.rangeSize lo hi 1 := by rw [rangeSize_one]; split <;> omega
    show IsRangeIter _ _ (lo + ((0 : Nat) : Int) * 1) ((((hi - lo).toNat : Nat) : Int) - ((0 : Nat) : Int)) 1
    rw [e1, e2]
    exact Heap.get?_push_size _ rfl
  · have e : b = (s.heap.push { cls := .type "range", data := .fields #[.int lo t, .int hi u, .int 1 v] }).objs.size := by simpa using hb
    subst e
    exact I1.fpOk (Nat.le_refl _) (I1.hok.fresh (Nat.le_refl _))
def iRng1 (ta : TA) : TI := fun σ H R => ta σ H fun vs H1 => ∃ j : Int, vs = [.int j] ∧ -(2 ^ 62) ≤ j ∧ j < 2 ^ 62 ∧ R (Itr 0 j.toNat) H1
theorem qc5 {a : Expr} {ta : TA} {p pos : Pos} (hg : Gl X "range") (hm : X.mg "range" = none) (ha : PA X [a] ta) (hs : starEach [a] X.env = [(false, eval a X.env)] := by rfl) : PI X tg (.Call (.Name "range" p) [a] [] pos) (iRng1 ta) := by
  intro pins s σ H R I h
  refine Call_ (yf0 I hg hm boot_range (PyProof.Rows.callWith_type1 (thn (ha pos pins s σ H _ I h) fun us s1 ⟨vs, H1, I1, r1, q1⟩ => ?_) hs rfl))
  obtain ⟨j, e, q1, q2, q⟩ := q1
  subst e
  cases r1 with
  | cons r rr =>
    cases rr
    obtain ⟨t, rfl⟩ := r
    exact call_range_1 (range_it I1 (by omega) (by omega) q1 q2 (by simpa using q))
def tFor (wi : TI) (g : TG) (tb : TS) : TS := fun D σ H => wi σ H fun J H1 => ∃ W : Nat → Nat → St → Hp → Prop, (∃ m, W 0 m σ H1) ∧ ∀ i m σ H, W i m σ H →
  (J.stop i H ∧ D.nx σ H) ∨ (J.go i H ∧ ∃ N : St → Hp → Prop, (∀ σ' H', N σ' H' → ∃ m', m' < m ∧ W (i + 1) m' σ' H') ∧ ∀ x H', J.yld i H x H' → g x σ H' fun σ2 H2 => tb { D with nx := N, ct := N, bk := D.nx } σ2 H2)
def qgv (fp : List Addr) (h : Heap) : List (Addr × Obj) := fp.filterMap fun b => (h.get? b).map fun o => (b, o)
theorem qdd {fp : List Addr} {h : Heap} {b : Addr} {o : Obj} (hb : b ∈ fp) (e : h.get? b = some o) : (b, o) ∈ qgv fp h := List.mem_filterMap.mpr ⟨b, hb, by rw [e]; rfl⟩
theorem qje {fp : List Addr} {h : Heap} {p : Addr × Obj} (hp : p ∈ qgv fp h) : p.1 ∈ fp ∧ h.get? p.1 = some p.2 := by
  obtain ⟨b, hb, e⟩ := List.mem_filterMap.mp hp
  cases q : h.get? b with
  | none => rw [q] at e; cases e
  | some o =>
    rw [q] at e
    have e' : (b, o) = p := Option.some.inj e
    subst e'
    exact ⟨hb, q⟩
theorem Inv.pinned {pins : List (Addr × Obj)} {σ : St} {H : Hp} {s : Shared} {fp : List Addr} (I : Inv X pins σ H s) (hf : ∀ b ∈ fp, FpOk X pins H b) (ho : ∀ b ∈ fp, ∃ o, s.heap.get? b = some o ∧ ∀ v, o.data ≠ .cell v) : Inv X (pins ++ qgv fp s.heap) σ H s :=
  I.pins_of fun p hp => (List.mem_append.mp hp).elim (fun z => I.pin p (List.mem_append_right _ z)) fun z => by
    obtain ⟨hb, e⟩ := qje z
    obtain ⟨f0, f1, f2, _⟩ := hf p.1 hb
    obtain ⟨o, e', d⟩ := ho p.1 hb
    rw [e] at e'; cases e'
    exact ⟨e, f0, f1, f2, d⟩
theorem Inv.unpinned {pins pl : List (Addr × Obj)} {σ : St} {H : Hp} {s : Shared} (I : Inv X (pins ++ pl) σ H s) : Inv X pins σ H s := I.pins_of fun p hp => I.pin p (List.mem_append_right _ (List.mem_append_left _ hp))
theorem qc7 {iter : Expr} {body : List Stmt} {wi : TI} {g : TG} {tb : TS} {pos : Pos} (hp : PassesOwn (model X.prog X.w) X.A X.env X.xe) (hc : X.calm = true) (hi : PI X tg iter wi) (hg : PG X tg g) (hb : PSs X body tb)
    (hs : ∀ x, foldedSetIterable iter X.env x = pure x := by intro _; rfl) : PS X (.For tg iter body [] pos) (tFor wi g tb) := by
  intro pins s σ H D I h
  refine wpAny_For (thn (hi pins s σ H _ I h) fun v s1 h1 => thn h1 fun itv s2 h2 => ?_) hs
  obtain ⟨it, fp, tn, J, H2, e, I2, T, st2, f2, W, ⟨m0, w0⟩, turn⟩ := h2
  subst e
  -- what stays true of the iterator's objects through the loop
  have stat : ∀ {H' : Hp}, (∀ b ∈ fp, H' b = none) → ∀ b ∈ fp, FpOk X pins H' b := fun hn b hb => ⟨hn b hb, (f2 b hb).2⟩
  refine codeAny_forLoop_any (fun n s' => ∃ i σ' H', Inv X pins σ' H' s' ∧ tn i s'.heap ∧ (∀ b ∈ fp, H' b = none) ∧ W i n σ' H') ?_ m0 ⟨0, σ, H2, I2, st2, fun b hb => (f2 b hb).1, w0⟩
  rintro n s3 ⟨i, σ3, H3, I3, st3, fr3, w3⟩
  rcases turn i n σ3 H3 w3 with ⟨stop, qn⟩ | ⟨go, N, hN, step⟩
  · refine wpAny_passesOwn hp (thn (T.done X rfl rfl rfl hc i pins s3 σ3 H3 X.xe I3 (stat fr3) st3 stop) fun r s4 ⟨hr, I4⟩ => ?_)
    subst hr
    exact wpAny_execs_nil ⟨σ3, H3, I4, qn⟩
  · refine wpAny_passesOwn hp (thn (T.item X rfl rfl rfl hc i pins s3 σ3 H3 X.xe I3 (stat fr3) st3 go) fun r s4 ⟨u, hr, h4⟩ => ?_)
    subst hr
    refine wpAny_passesOwn hp (thn h4 fun _ s5 ⟨x, H5, I5, r5, y5, st5, fr5⟩ => ?_)
    have I5' := I5.pinned (stat fr5) (T.obj _ _ st5)
    refine wpAny_passesOwn hp (thn (hg _ s5 σ3 H5 x u _ I5' r5 (step x H5 y5)) fun _ s6 ⟨σ6, H6, I6, q6⟩ => ?_)
    refine wpAny_passesOwn hp (thn (hb _ s6 σ6 H6 _ I6 q6) fun f s7 q7 => ?_)
    have again : ∀ {σ7 : St} {H7 : Hp}, Inv X (pins ++ qgv fp s5.heap) σ7 H7 s7 → N σ7 H7 → ∃ m, m < n ∧ ∃ i σ' H', Inv X pins σ' H' s7 ∧ tn i s7.heap ∧ (∀ b ∈ fp, H' b = none) ∧ W i m σ' H' := fun {σ7 H7} I7 n7 => by
      obtain ⟨m', hm, w7⟩ := hN σ7 H7 n7
      refine ⟨m', hm, i + 1, σ7, H7, I7.unpinned, T.keep _ _ _ st5 fun b hb o e => (I7.pin (b, o) (List.mem_append_right _ (List.mem_append_right _ (qdd hb e)))).1, fun b hb => ?_, w7⟩
      obtain ⟨o, e, d⟩ := T.obj _ _ st5 b hb
      exact (I7.pin (b, o) (List.mem_append_right _ (List.mem_append_right _ (qdd hb e)))).2.1
    cases f with
    | next => obtain ⟨σ7, H7, I7, n7⟩ := q7; exact again I7 n7
    | cont => obtain ⟨σ7, H7, I7, n7⟩ := q7; exact again I7 n7
    | brk => obtain ⟨σ7, H7, I7, q7⟩ := q7; exact ⟨σ7, H7, I7.unpinned, q7⟩
    | ret v => obtain ⟨x7, σ7, H7, I7, r7, q7⟩ := q7; exact ⟨x7, σ7, H7, I7.unpinned, r7, q7⟩
end
theorem yb1 {K : PySem.W.Frag} {a : Addr} {xs : List V} {g : TG} {tb : TS} {D : Ends} {σ : St} {H : Hp} (Pv : Nat → St → Hp → Prop) (h0 : Pv 0 σ H) (hl : ∀ i σ H, i ≤ xs.length → Pv i σ H → SqL K H a xs)
    (hs : ∀ i x σ H, xs[i]? = some x → Pv i σ H → g x σ H fun σ2 H2 => tb { D with nx := Pv (i + 1), ct := Pv (i + 1), bk := D.nx } σ2 H2) (hd : ∀ σ H, Pv xs.length σ H → D.nx σ H) :
    ∃ W : Nat → Nat → St → Hp → Prop, (∃ m, W 0 m σ H) ∧ ∀ i m σ H, W i m σ H →
      ((Itl K a).stop i H ∧ D.nx σ H) ∨ ((Itl K a).go i H ∧ ∃ N : St → Hp → Prop, (∀ σ' H', N σ' H' → ∃ m', m' < m ∧ W (i + 1) m' σ' H') ∧ ∀ x H', (Itl K a).yld i H x H' → g x σ H' fun σ2 H2 => tb { D with nx := N, ct := N, bk := D.nx } σ2 H2) := by
  refine ⟨fun i m σ H => m = xs.length - i ∧ i ≤ xs.length ∧ Pv i σ H, ⟨xs.length, by simp, Nat.zero_le _, h0⟩, ?_⟩
  rintro i m σ H ⟨rfl, hi, p⟩
  have q := hl i σ H hi p
  by_cases hlt : i < xs.length
  · refine .inr ⟨⟨xs, xs[i], q, by simp [hlt]⟩, Pv (i + 1), fun σ' H' p' => ⟨xs.length - (i + 1), by omega, rfl, hlt, p'⟩, fun x H' y => ?_⟩
    obtain ⟨e, y⟩ := y
    subst e
    exact hs i x σ _ (y xs q) p
  · have e : i = xs.length := by omega
    subst e
    exact .inl ⟨⟨xs, q, Nat.le_refl _⟩, hd σ H p⟩
theorem yfk {lo : Int} {n : Nat} {g : TG} {tb : TS} {D : Ends} {σ : St} {H : Hp} (Pv : Nat → St → Hp → Prop) (h0 : Pv 0 σ H)
    (hs : ∀ i σ H, i < n → Pv i σ H → g (.int (lo + i)) σ H fun σ2 H2 => tb { D with nx := Pv (i + 1), ct := Pv (i + 1), bk := D.nx } σ2 H2) (hd : ∀ σ H, Pv n σ H → D.nx σ H) :
    ∃ W : Nat → Nat → St → Hp → Prop, (∃ m, W 0 m σ H) ∧ ∀ i m σ H, W i m σ H →
      ((Itr lo n).stop i H ∧ D.nx σ H) ∨ ((Itr lo n).go i H ∧ ∃ N : St → Hp → Prop, (∀ σ' H', N σ' H' → ∃ m', m' < m ∧ W (i + 1) m' σ' H') ∧ ∀ x H', (Itr lo n).yld i H x H' → g x σ H' fun σ2 H2 => tb { D with nx := N, ct := N, bk := D.nx } σ2 H2) := by
  refine ⟨fun i m σ H => m = n - i ∧ i ≤ n ∧ Pv i σ H, ⟨n, by simp, Nat.zero_le _, h0⟩, ?_⟩
  rintro i m σ H ⟨rfl, hi, p⟩
  by_cases hlt : i < n
  · refine .inr ⟨hlt, Pv (i + 1), fun σ' H' p' => ⟨n - (i + 1), by omega, rfl, hlt, p'⟩, fun x H' y => ?_⟩
    obtain ⟨e, y⟩ := y
    subst e y
    exact hs i σ _ hlt p
  · have e : i = n := by omega
    subst e
    exact .inl ⟨Nat.le_refl _, hd σ H p⟩
abbrev R2 := V → V → Hp → VK → Prop
def OpR (X : Cx) (f : Value → Value → Sem Value) (r : R2) : Prop :=
  ∀ (pins : List (Addr × Obj)) (s : Shared) (σ : St) (H : Hp) (x y : V) (v u : Value) (Q : VK), Inv X pins σ H s → RelV x v → RelV y u → r x y H Q →
    wpAny (model X.prog X.w) X.A (f v u) (EP X pins σ Q) X.xe s
def UnR (X : Cx) (f : Value → Sem Value) (r : V → Hp → VK → Prop) : Prop :=
  ∀ (pins : List (Addr × Obj)) (s : Shared) (σ : St) (H : Hp) (x : V) (v : Value) (Q : VK), Inv X pins σ H s → RelV x v → r x H Q →
    wpAny (model X.prog X.w) X.A (f v) (EP X pins σ Q) X.xe s
def ycz (X : Cx) (f : Value) (r : List V → Hp → VK → Prop) : Prop :=
  ∀ (pins : List (Addr × Obj)) (s : Shared) (σ : St) (H : Hp) (xs : List V) (us : List Value) (Q : VK), Inv X pins σ H s → Vals xs us → r xs H Q →
    wpAny (model X.prog X.w) X.A (call f us) (EP X pins σ Q) X.xe s
def tOp (r : R2) (ta tb : TE) : TE := fun σ H Q => ta σ H fun x H1 => tb σ H1 fun y H2 => r x y H2 Q
def tUn (r : V → Hp → VK → Prop) (ta : TE) : TE := fun σ H Q => ta σ H fun x H1 => r x H1 Q
def rI (C : Int → Int → Prop) (g : Int → Int → V) : R2 := fun x y H Q => ∃ i j, x = .int i ∧ y = .int j ∧ C i j ∧ Q (g i j) H
def rI0 (g : Int → Int → V) : R2 := fun x y H Q => ∃ i j, x = .int i ∧ y = .int j ∧ Q (g i j) H
def rU (g : Int → V) : V → Hp → VK → Prop := fun x H Q => ∃ i, x = .int i ∧ Q (g i) H
section
variable {X : Cx} {a b c : Expr} {ta tb tc : TE} {pos : Pos}
theorem binT (ha : PE X a ta) (hb : PE X b tb) {pins : List (Addr × Obj)} {s : Shared} {σ : St} {H : Hp} {R : V → V → Hp → Prop} (I : Inv X pins σ H s)
    (h : ta σ H fun x H1 => tb σ H1 fun y H2 => R x y H2) {Q : Value → Shared → Prop} {f : Value → Value → Sem Value}
    (hf : ∀ v u s2 x y H2, Inv X pins σ H2 s2 → RelV x v → RelV y u → R x y H2 → wpAny (model X.prog X.w) X.A (f v u) Q X.xe s2) :
    wpAny (model X.prog X.w) X.A (eval a X.env) (fun v s₁ => wpAny (model X.prog X.w) X.A (eval b X.env) (fun u s₂ => wpAny (model X.prog X.w) X.A (f v u) Q X.xe s₂) X.xe s₁) X.xe s := by
  refine thn (ha pins s σ H _ I h) fun v s1 ⟨x, H1, I1, r1, q1⟩ => ?_
  refine thn (hb pins s1 σ H1 _ I1 q1) fun u s2 ⟨y, H2, I2, r2, q2⟩ => ?_
  exact hf v u s2 x y H2 I2 r1 r2 q2
theorem qbi {op : Operator} {r : R2} (ho : OpR X (binaryOp op) r) (ha : PE X a ta) (hb : PE X b tb) : PE X (.BinOp a op b pos) (tOp r ta tb) := by
  intro pins s σ H Q I h
  exact wpAny_BinOp (binT ha hb I h fun v u s2 x y H2 I2 rx ry q => ho pins s2 σ H2 x y v u Q I2 rx ry q)
theorem qhu {op : UnaryOp} {r : V → Hp → VK → Prop} (ho : UnR X (unaryOp op) r) (ha : PE X a ta) : PE X (.UnaryOp op a pos) (tUn r ta) := by
  intro pins s σ H Q I h
  exact UnaryOp_ (thn (ha pins s σ H _ I h) fun v s1 ⟨x, H1, I1, r1, q1⟩ => ho pins s1 σ H1 x v Q I1 r1 q1)
theorem opI {f : Value → Value → Sem Value} {C : Int → Int → Prop} {g : Int → Int → Int}
    (rule : ∀ (i j : Int) (t u : Tok) (s : Shared) (Q : Value → Shared → Prop) (E : Value → Shared → Prop), C i j → Q (.int (g i j) s.toks) { s with toks := s.toks + 1 } → wpAny (model X.prog X.w) X.A (f (.int i t) (.int j u)) Q E s) :
    OpR X f (rI C fun i j => .int (g i j)) := by
  intro pins s σ H x y v u Q I rx ry h
  obtain ⟨i, j, rfl, rfl, hc, q⟩ := h
  obtain ⟨t, rfl⟩ := rx
  obtain ⟨t', rfl⟩ := ry
  exact rule i j t t' s _ _ hc ⟨.int (g i j), H, I.tok _, ⟨_, rfl⟩, q⟩
theorem opI0 {f : Value → Value → Sem Value} {g : Int → Int → Int}
    (rule : ∀ (i j : Int) (t u : Tok) (s : Shared) (Q : Value → Shared → Prop) (E : Value → Shared → Prop), Q (.int (g i j) s.toks) { s with toks := s.toks + 1 } → wpAny (model X.prog X.w) X.A (f (.int i t) (.int j u)) Q E s) :
    OpR X f (rI0 fun i j => .int (g i j)) := by
  intro pins s σ H x y v u Q I rx ry h
  obtain ⟨i, j, rfl, rfl, q⟩ := h
  obtain ⟨t, rfl⟩ := rx
  obtain ⟨t', rfl⟩ := ry
  exact rule i j t t' s _ _ ⟨.int (g i j), H, I.tok _, ⟨_, rfl⟩, q⟩
theorem opB0 {f : Value → Value → Sem Value} {g : Int → Int → Bool}
    (rule : ∀ (i j : Int) (t u : Tok) (s : Shared) (Q : Value → Shared → Prop) (E : Value → Shared → Prop), Q (.bool (g i j)) s → wpAny (model X.prog X.w) X.A (f (.int i t) (.int j u)) Q E s) :
    OpR X f (rI0 fun i j => .bl (g i j)) := by
  intro pins s σ H x y v u Q I rx ry h
  obtain ⟨i, j, rfl, rfl, q⟩ := h
  obtain ⟨t, rfl⟩ := rx
  obtain ⟨t', rfl⟩ := ry
  exact rule i j t t' s _ _ ⟨.bl (g i j), H, I, rfl, q⟩
def CDiv (i j : Int) : Prop := 0 < j ∧ j < 1073741824
def CPow (i j : Int) : Prop := 0 ≤ j ∧ j ≤ 1000000 ∧ i.natAbs < 2 ^ 64
def CMul (i j : Int) : Prop := (-(2 ^ 64) < i ∧ i < 2 ^ 64) ∨ (-(2 ^ 64) < j ∧ j < 2 ^ 64)
theorem CMul.ok {i j : Int} (h : CMul i j) : IntMulOk i j := by
  rcases h with ⟨h1, h2⟩ | ⟨h1, h2⟩
  · exact .of_left (intBits_le_64 h1 h2)
  · exact .of_right (intBits_le_64 h1 h2)
theorem yb8 : OpR X (binaryOp .Add) (rI0 fun i j => .int (i + j)) := opI0 fun _ _ _ _ _ _ _ q => add_int q
theorem qi2 : OpR X (binaryOp .Sub) (rI0 fun i j => .int (i - j)) := opI0 fun _ _ _ _ _ _ _ q => sub_int q
theorem ygq : OpR X (binaryOp .Mult) (rI CMul fun i j => .int (i * j)) := opI fun _ _ _ _ _ _ _ hc q => mul_int q hc.ok
theorem qj0 : OpR X (binaryOp .FloorDiv) (rI CDiv fun i j => .int (i / j)) := opI fun i j _ _ _ _ _ hc q => by
  have h1 : (0 : Int) < j := hc.1
  have h2 : j < 1073741824 := hc.2
  exact floordiv_int (by omega) (by rw [Int.fdiv_eq_ediv_of_nonneg i (by omega)]; exact q) (.inl (PyProof.noPylong_small (by omega)))
theorem qc3 : OpR X (binaryOp .Mod) (rI (fun _ j => 0 < j) fun i j => .int (i % j)) := opI fun i j _ _ _ _ _ hc q => by
  have h1 : (0 : Int) < j := hc
  exact mod_int' (by omega) (by rw [Int.fmod_eq_emod_of_nonneg i (by omega)]; exact q)
theorem qgz : OpR X (binaryOp .Pow) (rI CPow fun i j => .int (i ^ j.toNat)) := opI fun _ _ _ _ _ _ _ hc q => pow_int_small hc.1 hc.2.1 hc.2.2 q
theorem unI {f : Value → Sem Value} {g : Int → Int}
    (rule : ∀ (i : Int) (t : Tok) (s : Shared) (Q : Value → Shared → Prop) (E : Value → Shared → Prop), Q (.int (g i) s.toks) { s with toks := s.toks + 1 } → wpAny (model X.prog X.w) X.A (f (.int i t)) Q E s) :
    UnR X f (rU fun i => .int (g i)) := by
  intro pins s σ H x v Q I rx h
  obtain ⟨i, rfl, q⟩ := h
  obtain ⟨t, rfl⟩ := rx
  exact rule i t s _ _ ⟨.int (g i), H, I.tok _, ⟨_, rfl⟩, q⟩
theorem qe5 : UnR X (unaryOp .USub) (rU fun i => .int (-i)) := unI fun _ _ _ _ _ q => neg_int q
end
def scal : V → V → Bool
  | .non, .non => true | .non, .int _ => true | .int _, .non => true | .non, .bl _ => true | .bl _, .non => true | .non, .str _ => true | .str _, .non => true
  | .int _, .int _ => true | .bl _, .bl _ => true | .str _, .str _ => true | .byt _, .byt _ => true
  | .int _, .str _ => true | .str _, .int _ => true | .bl _, .str _ => true | .str _, .bl _ => true
  | _, _ => false
def rEq : R2 := fun x y H Q => scal x y = true ∧ Q (.bl (decide (x = y))) H
def rNe : R2 := fun x y H Q => scal x y = true ∧ Q (.bl (!decide (x = y))) H
theorem yki {i j : Int} : decide (V.int i = V.int j) = (i == j) := by
  rw [Bool.eq_iff_iff]
  simp
theorem dec_bl {i j : Bool} : decide (V.bl i = V.bl j) = (i == j) := by
  rw [Bool.eq_iff_iff]
  simp
theorem ykc {i j : Str} : decide (V.str i = V.str j) = (i == j) := by
  rw [Bool.eq_iff_iff]
  simp
theorem qji {i j : Array UInt8} : decide (V.byt i = V.byt j) = (i.toList == j.toList) := by
  rw [Bool.eq_iff_iff]
  cases i
  cases j
  simp
section
variable {X : Cx} {a b c : Expr} {ta tb tc : TE} {pos : Pos}
theorem ya2 {pins : List (Addr × Obj)} {σ : St} {H : Hp} {s : Shared} {Q : VK} {k k' : Bool} (I : Inv X pins σ H s) (q : Q (.bl k) H) (e : k = k') : EP X pins σ Q (.bool k') s := by
  subst e
  exact ⟨.bl k, H, I, rfl, q⟩
theorem ybk : OpR X (compareOp .Eq) rEq := by
  intro pins s σ H x y v u Q I rx ry h
  obtain ⟨hs, q⟩ := h
  cases x with
  | non =>
    cases rx
    cases y with
    | non => cases ry; exact PySem.EqNone.eq_none_none (ya2 I q (by simp))
    | bl j => cases ry; exact PySem.EqNone.eq_none_bool (ya2 I q (by simp))
    | int j => obtain ⟨t', rfl⟩ := ry; exact PySem.EqNone.eq_none_int (ya2 I q (by simp))
    | str j => obtain ⟨t', rfl⟩ := ry; exact PySem.EqNone.eq_none_str (ya2 I q (by simp))
    | _ => exact absurd (show false = true from hs) Bool.false_ne_true
  | bl i =>
    cases rx
    cases y with
    | non => cases ry; exact PySem.EqNone.eq_bool_none (ya2 I q (by simp))
    | bl j => cases ry; exact eq_bool (ya2 I q dec_bl)
    | str j => obtain ⟨t', rfl⟩ := ry; exact PySem.EqMixed.eq_bool_str (ya2 I q (by simp))
    | _ => exact absurd (show false = true from hs) Bool.false_ne_true
  | int i =>
    obtain ⟨t, rfl⟩ := rx
    cases y with
    | non => cases ry; exact PySem.EqNone.eq_int_none (ya2 I q (by simp))
    | int j => obtain ⟨t', rfl⟩ := ry; exact eq_int (ya2 I q yki)
    | str j => obtain ⟨t', rfl⟩ := ry; exact PySem.EqMixed.eq_int_str (ya2 I q (by simp))
    | _ => exact absurd (show false = true from hs) Bool.false_ne_true
  | str i =>
    obtain ⟨t, rfl⟩ := rx
    cases y with
    | non => cases ry; exact PySem.EqNone.eq_str_none (ya2 I q (by simp))
    | bl j => cases ry; exact PySem.EqMixed.eq_str_bool (ya2 I q (by simp))
    | int j => obtain ⟨t', rfl⟩ := ry; exact PySem.EqMixed.eq_str_int (ya2 I q (by simp))
    | str j => obtain ⟨t', rfl⟩ := ry; exact eq_str (ya2 I q ykc)
    | _ => exact absurd (show false = true from hs) Bool.false_ne_true
  | byt i =>
    obtain ⟨t, rfl⟩ := rx
    cases y with
    | byt j => obtain ⟨t', rfl⟩ := ry; exact PySem.W.eq_bytes (ya2 I q qji)
    | _ => exact absurd (show false = true from hs) Bool.false_ne_true
  | _ => cases y <;> exact absurd (show false = true from hs) Bool.false_ne_true
theorem yix : OpR X (compareOp .NotEq) rNe := by
  intro pins s σ H x y v u Q I rx ry h
  obtain ⟨hs, q⟩ := h
  cases x with
  | non =>
    cases rx
    cases y with
    | non => cases ry; exact PySem.EqNone.ne_none_none (ya2 I q (by simp))
    | bl j => cases ry; exact PySem.EqNone.ne_none_bool (ya2 I q (by simp))
    | int j => obtain ⟨t', rfl⟩ := ry; exact PySem.EqNone.ne_none_int (ya2 I q (by simp))
    | str j => obtain ⟨t', rfl⟩ := ry; exact PySem.EqNone.ne_none_str (ya2 I q (by simp))
    | _ => exact absurd (show false = true from hs) Bool.false_ne_true
  | bl i =>
    cases rx
    cases y with
    | non => cases ry; exact PySem.EqNone.ne_bool_none (ya2 I q (by simp))
    | bl j => cases ry; exact ne_bool (ya2 I q (congrArg not dec_bl))
    | str j => obtain ⟨t', rfl⟩ := ry; exact PySem.EqMixed.ne_bool_str (ya2 I q (by simp))
    | _ => exact absurd (show false = true from hs) Bool.false_ne_true
  | int i =>
    obtain ⟨t, rfl⟩ := rx
    cases y with
    | non => cases ry; exact PySem.EqNone.ne_int_none (ya2 I q (by simp))
    | int j => obtain ⟨t', rfl⟩ := ry; exact ne_int (ya2 I q (congrArg not yki))
    | str j => obtain ⟨t', rfl⟩ := ry; exact PySem.EqMixed.ne_int_str (ya2 I q (by simp))
    | _ => exact absurd (show false = true from hs) Bool.false_ne_true
  | str i =>
    obtain ⟨t, rfl⟩ := rx
    cases y with
    | non => cases ry; exact PySem.EqNone.ne_str_none (ya2 I q (by simp))
    | bl j => cases ry; exact PySem.EqMixed.ne_str_bool (ya2 I q (by simp))
    | int j => obtain ⟨t', rfl⟩ := ry; exact PySem.EqMixed.ne_str_int (ya2 I q (by simp))
    | str j => obtain ⟨t', rfl⟩ := ry; exact ne_str (ya2 I q (congrArg not ykc))
    | _ => exact absurd (show false = true from hs) Bool.false_ne_true
  | byt i =>
    obtain ⟨t, rfl⟩ := rx
    cases y with
    | byt j => obtain ⟨t', rfl⟩ := ry; exact PySem.W.ne_bytes (ya2 I q (congrArg not qji))
    | _ => exact absurd (show false = true from hs) Bool.false_ne_true
  | _ => cases y <;> exact absurd (show false = true from hs) Bool.false_ne_true
theorem op_lt : OpR X (compareOp .Lt) (rI0 fun i j => .bl (decide (i < j))) := opB0 fun _ _ _ _ _ _ _ q => lt_int q
theorem op_le : OpR X (compareOp .LtE) (rI0 fun i j => .bl (decide (i ≤ j))) := opB0 fun _ _ _ _ _ _ _ q => le_int q
theorem ygi : OpR X (compareOp .Gt) (rI0 fun i j => .bl (decide (j < i))) := opB0 fun _ _ _ _ _ _ _ q => gt_int q
theorem ygk : OpR X (compareOp .GtE) (rI0 fun i j => .bl (decide (j ≤ i))) := opB0 fun _ _ _ _ _ _ _ q => ge_int q
theorem yai (b : Expr) {op : CmpOp} (h : op ≠ .In := by decide) (h2 : op ≠ .NotIn := by decide) : behindInMarks op b = false := by
  have e1 : (op == CmpOp.In) = false := by cases op <;> first | rfl | exact absurd rfl h
  have e2 : (op == CmpOp.NotIn) = false := by cases op <;> first | rfl | exact absurd rfl h2
  cases b <;> simp [behindInMarks, e1, e2]
theorem qat {op : CmpOp} {r : R2} (ho : OpR X (compareOp op) r) (ha : PE X a ta) (hb : PE X b tb) (hm : behindInMarks op b = false) : PE X (.Compare a [op] [b] pos) (tOp r ta tb) := by
  intro pins s σ H Q I h
  exact wpAny_Compare1 (binT ha hb I h fun v u s2 x y H2 I2 rx ry q => ho pins s2 σ H2 x y v u Q I2 rx ry q) hm
def tTest (t : TE) : TT := fun σ H Q => t σ H fun x H' => ∃ k, x = .bl k ∧ Q k H'
theorem qar {op : CmpOp} {r : R2} (ho : OpR X (compareOp op) r) (ha : PE X a ta) (hb : PE X b tb) (hm : behindInMarks op b = false) : PT X (.Compare a [op] [b] pos) (tTest (tOp r ta tb)) := by
  intro pins s σ H Q I h
  refine wpAny_isTrue_Compare1 (thn (ha pins s σ H _ I h) fun v s1 ⟨x, H1, I1, r1, q1⟩ => thn (hb pins s1 σ H1 _ I1 q1) fun u s2 ⟨y, H2, I2, r2, q2⟩ =>
    thn (ho pins s2 σ H2 x y v u _ I2 r1 r2 q2) fun c s3 ⟨z, H3, I3, r3, k, e, q3⟩ => ?_) hm
  subst e
  cases r3
  exact wpAny_truthy_bool ⟨H3, I3, q3⟩
theorem yic : (sizeLine : Nat) < 2 ^ 63 := by rw [sizeLine_eq]; decide
theorem qir {x : V} {us : List Value} (r : Vals [x] us) : ∃ u, us = [u] ∧ RelV x u := by
  cases r with
  | cons r1 r2 => cases r2; exact ⟨_, rfl, r1⟩
theorem vals2 {x y : V} {us : List Value} (r : Vals [x, y] us) : ∃ u w', us = [u, w'] ∧ RelV x u ∧ RelV y w' := by
  cases r with
  | cons r1 r2 =>
    cases r2 with
    | cons r3 r4 => cases r4; exact ⟨_, _, rfl, r1, r3⟩
theorem call_abs : ycz X (.builtin "abs") (fun xs H Q => ∃ i, xs = [.int i] ∧ Q (.int (if i < 0 then -i else i)) H) := by
  intro pins s σ H xs us Q I r h
  obtain ⟨i, rfl, q⟩ := h
  obtain ⟨u, rfl, t, rfl⟩ := qir r
  exact call_abs_int fun u tk => ⟨.int (if i < 0 then -i else i), H, I.tok _, ⟨_, rfl⟩, q⟩
theorem yg4 (hc : X.calm = true) : ycz X (.builtin "max") (fun xs H Q => ∃ i j, xs = [.int i, .int j] ∧ Q (.int (if j > i then j else i)) H) := by
  intro pins s σ H xs us Q I r h
  obtain ⟨i, j, rfl, q⟩ := h
  obtain ⟨u, w', rfl, ⟨t, rfl⟩, ⟨t', rfl⟩⟩ := vals2 r
  refine max_two_ints (I.ok.hd hc) fun h' tk k => ⟨_, H, I.kept k, ?_, q⟩
  by_cases hj : j > i
  · rw [if_pos hj, if_pos hj]; exact ⟨_, rfl⟩
  · rw [if_neg hj, if_neg hj]; exact ⟨_, rfl⟩
theorem yi0 (hc : X.calm = true) : ycz X (.builtin "min") (fun xs H Q => ∃ i j, xs = [.int i, .int j] ∧ Q (.int (if j < i then j else i)) H) := by
  intro pins s σ H xs us Q I r h
  obtain ⟨i, j, rfl, q⟩ := h
  obtain ⟨u, w', rfl, ⟨t, rfl⟩, ⟨t', rfl⟩⟩ := vals2 r
  refine min_two_ints (I.ok.hd hc) fun h' tk k => ⟨_, H, I.kept k, ?_, q⟩
  by_cases hj : j < i
  · rw [if_pos hj, if_pos hj]; exact ⟨_, rfl⟩
  · rw [if_neg hj, if_neg hj]; exact ⟨_, rfl⟩
theorem yjb : ycz X (.type "int") (fun xs H Q => (∃ i, xs = [.int i] ∧ Q (.int i) H) ∨ ∃ k, xs = [.bl k] ∧ Q (.int (if k then 1 else 0)) H) := by
  intro pins s σ H xs us Q I r h
  rcases h with ⟨i, rfl, q⟩ | ⟨k, rfl, q⟩
  · obtain ⟨u, rfl, t, rfl⟩ := qir r
    exact call_int_int ⟨.int i, H, I, ⟨_, rfl⟩, q⟩
  · obtain ⟨u, rfl, r1⟩ := qir r
    cases r1
    exact call_int_bool ⟨.int (if k then 1 else 0), H, I.tok _, ⟨_, rfl⟩, q⟩
end
structure ObjM (h : Heap) (x dx C : Addr) (mA : Str → Option Value) : Prop where
  obj : h.get? x = some (PySem.W.instObj C dx)
  ns : h.Ns1 dx mA
  ne : dx ≠ x
theorem yi4 {h : Heap} {dx : Addr} {mA : Str → Option Value} (n : h.Ns1 dx mA) : ∃ od, h.get? dx = some od ∧ ∀ name, PySem.W.lookIn name od = some (mA name) := by
  obtain ⟨o, es, ep, ho, hd, hk, _, hm⟩ := n
  refine ⟨o, ho, fun name => ?_⟩
  have e := hm name
  unfold nsFind findBy at e
  rw [← Array.find?_toList] at e
  unfold PySem.W.lookIn
  rw [hd]
  dsimp only
  split
  · rename_i y q
    rw [q] at e
    exact congrArg some e
  · rename_i q
    rw [q] at e
    have a : es.toList.any (·.refKey) = false := by
      rw [List.any_eq_false]
      intro y hy
      obtain ⟨z, t, hkey⟩ := hk y (Array.mem_toList_iff.mp hy)
      simp [DictEntry.refKey, hkey]
    have a' : ¬ es.toList.any (·.refKey) = true := by rw [a]; exact Bool.false_ne_true
    rw [if_neg a']
    exact congrArg some e
theorem ObjM.look {h : Heap} {x dx C : Addr} {mA : Str → Option Value} (I : ObjM h x dx C mA) : ∃ od, PySem.W.InstAt h x (PySem.W.instObj C dx) C (some od) ∧ ∀ name, PySem.W.lookIn name od = some (mA name) :=
  let ⟨od, ho, hl⟩ := yi4 I.ns
  ⟨od, ⟨I.obj, rfl, rfl, ho⟩, hl⟩
section
variable {prog : Program} {w : World} {A : Around} {E : Value → Shared → Prop} {s : Shared} {K : PySem.W.Frag} {x dx C f : Addr} {mA : Str → Option Value} {name : Str} {v : Value}
theorem get_map {expr : Bool} {Q : Value → Shared → Prop} (X : K.In s.heap) (I : ObjM s.heap x dx C mA) (hg : PySem.W.plainGet K C name = true) (hh : PySem.W.hasDictIn K C = true)
    (ha : PySem.W.findIn K (.ref C) name = some none) (hv : mA name = some v) (hv' : PySem.W.handedIn v = true) (h : Q v { s with toks := s.toks + 1 }) :
    wpAny (model prog w) A (getAttr (.ref x) name expr) Q E s := by
  obtain ⟨od, J, hl⟩ := I.look
  exact PySem.W.get_value X J (PySem.W.plainGet_of hg).1 (PySem.W.findObj_own hh ha rfl (by rw [hl, hv])) hv' h
theorem get_meth {pl : Sem Bool} {Q : Value × List Value → Shared → Prop} (X : K.In s.heap) (I : ObjM s.heap x dx C mA) (hg : PySem.W.plainGet K C name = true)
    (hf : PySem.W.findIn K (.ref C) name = some (some (.ref f))) (ht : PySem.W.isFn K (.ref f) = true) (hv : mA name = none) (h : Q (.ref f, [.ref x]) s) :
    wpAny (model prog w) A (getMethod (.ref x) name pl) Q E s := by
  obtain ⟨od, J, hl⟩ := I.look
  exact PySem.W.method_fn X J (PySem.W.plainGet_of hg).1 (PySem.W.plainGet_of hg).2 hf (beq_iff_eq.mp ht) (by show (PySem.W.lookIn name od).map (·.isSome) = some false; rw [hl, hv]; rfl) h
theorem set_map {ns : List Str} {Q : Unit → Shared → Prop} (X : K.In s.heap) (I : ObjM s.heap x dx C mA)
    (hs : PySem.W.findIn K (.ref C) "__setattr__" = some (some (.builtin "object.__setattr__"))) (hp : PySem.W.plainOver K C = true) (ht : PySem.W.takerIn K C name = some none) (hh : PySem.W.hasDictIn K C = true)
    (hw : PySem.Within mA ns) (hsz : ns.length ≤ sizeLine)
    (h : ∀ h', ObjM h' x dx C (fun y => if y = name then some v else mA y) → Heap.SameBut dx s.heap h' → Q () { s with heap := h', toks := s.toks + 2 }) :
    wpAny (model prog w) A (setAttr (.ref x) name v) Q E s := by
  obtain ⟨od, J, hl⟩ := I.look
  refine PySem.W.set_plain X J hs (PySem.W.osa_open (s := { s with toks := s.toks + 1 }) (r := none) X J hp ht fun b => ?_)
  obtain ⟨cd, hc, hd'⟩ := PySem.W.any_some hh
  have hx : s.heap.get? x = some ⟨.ref C, some dx, .plain, #[]⟩ := I.obj
  refine wpAny_bind (wpAny_pure (wpAny_bind (wpAny_bind (wpAny_loadPart hx (wpAny_bind (PySem.W.Looks.here (s := { s with toks := s.toks + 1 }) (PySem.W.looks_clsIn X hc) ?_))))))
  rw [hd']
  refine wpAny_pure (a := some dx) (wpAny_bind (wpAny_pure (wpAny_bind ?_)))
  refine wpAny_nsSet1 (s := { s with toks := s.toks + 1 }) I.ns fun h' hn2 hs2 => ?_
  obtain ⟨oD, esD, epD, hoD, hdD, hcD⟩ := hn2.count (PySem.Within.cons name v hw)
  refine wpAny_bind (wpAny_lookBehind hoD (by rw [hdD]; exact pastItsLine_dict (Nat.le_trans hcD (by rw [List.length_cons]; omega))) ?_)
  exact wpAny_pure (h _ ⟨(hs2.2 _ (Ne.symm I.ne)).trans I.obj, hn2, I.ne⟩ hs2)
theorem qii {R : Result → Shared → Prop} {vs : List Value} {kw : List (Str × Value)} (X : K.In s.heap) (hm : PySem.W.makesIn K C = true)
    (hi : PySem.W.findIn K (.ref C) "__init__" = some (some (.ref f))) (hf : PySem.W.typeIn K (.ref f) = some (.type "function"))
    (h : codeAny (model prog w) (A.under (.builtin "type.__call__" ⟨.ref C :: vs, kw⟩)) (.call (.ref f) ⟨.ref (s.heap.objs.size + 1) :: vs, kw⟩) (PySem.W.InitBack (s.heap.objs.size + 1) R)
      { s with heap := (s.heap.push PySem.W.emptyDict).push (PySem.W.instObj C s.heap.objs.size) }) :
    codeAny (model prog w) A (.call (.ref C) ⟨vs, kw⟩) R s := by
  obtain ⟨hh, g, d, t, os⟩ := s
  exact PySem.W.make_core (PySem.W.makes_of X hm) (PySem.W.looks_findIn X hi) (fun self => PySem.W.bind_fn X self hf) (.inl rfl) h
end
def putF (f : Str) (v : V) : List (Str × V) → List (Str × V)
  | [] => [(f, v)]
  | (g, x) :: r => if g = f then (g, v) :: r else (g, x) :: putF f v r
theorem ydp (f g : Str) (v : V) : ∀ fs : List (Str × V), (putF f v fs).lookup g = if g = f then some v else fs.lookup g
  | [] => by
    show List.lookup g [(f, v)] = _
    by_cases h : g = f
    · have hb : (g == f) = true := beq_iff_eq.mpr h
      simp only [List.lookup, hb, if_pos h]
    · have hb : (g == f) = false := beq_eq_false_iff_ne.mpr h
      simp only [List.lookup, hb, if_neg h]
  | (k, x) :: r => by
    have ih := ydp f g v r
    rw [show putF f v ((k, x) :: r) = (if k = f then (k, v) :: r else (k, x) :: putF f v r) from rfl]
    by_cases hk : k = f
    · rw [if_pos hk]
      by_cases h : g = k
      · have hb : (g == k) = true := beq_iff_eq.mpr h
        simp only [List.lookup, hb, if_pos (h.trans hk)]
      · have hb : (g == k) = false := beq_eq_false_iff_ne.mpr h
        simp only [List.lookup, hb, if_neg (fun e : g = f => h (e.trans hk.symm))]
    · rw [if_neg hk]
      by_cases h : g = k
      · have hb : (g == k) = true := beq_iff_eq.mpr h
        simp only [List.lookup, hb, if_neg (fun e : g = f => hk (h.symm.trans e))]
      · have hb : (g == k) = false := beq_eq_false_iff_ne.mpr h
        simp only [List.lookup, hb]
        exact ih
theorem qda (f : Str) (v : V) : ∀ fs : List (Str × V), f ∈ (putF f v fs).map (·.1) ∧ ∀ g, g ∈ fs.map (·.1) → g ∈ (putF f v fs).map (·.1)
  | [] => ⟨by simp [putF], fun g h => by simp at h⟩
  | (k, x) :: r => by
    obtain ⟨i1, i2⟩ := qda f v r
    rw [show putF f v ((k, x) :: r) = (if k = f then (k, v) :: r else (k, x) :: putF f v r) from rfl]
    by_cases hk : k = f
    · rw [if_pos hk]
      subst hk
      exact ⟨by simp, fun g h => by simpa using h⟩
    · rw [if_neg hk]
      refine ⟨?_, fun g h => ?_⟩
      · rw [List.map_cons]
        exact List.mem_cons_of_mem _ i1
      · rw [List.map_cons] at h ⊢
        rcases List.mem_cons.mp h with e | e
        · exact List.mem_cons.mpr (.inl e)
        · exact List.mem_cons_of_mem _ (i2 g e)
theorem qdn (f : Str) (v : V) : ∀ fs : List (Str × V), (putF f v fs).length ≤ fs.length + 1
  | [] => by simp [putF]
  | (k, x) :: r => by
    have ih := qdn f v r
    rw [show putF f v ((k, x) :: r) = (if k = f then (k, v) :: r else (k, x) :: putF f v r) from rfl]
    by_cases hk : k = f
    · rw [if_pos hk, List.length_cons, List.length_cons]; omega
    · rw [if_neg hk, List.length_cons, List.length_cons]; omega
theorem RelO.some_of {v : V} {o : Option Value} (r : RelO (some v) o) : ∃ u, o = some u ∧ RelV v u := by
  cases o with
  | none => exact (show False from r).elim
  | some u => exact ⟨u, rfl, r⟩
theorem RelO.none_of {o : Option Value} (r : RelO none o) : o = none := by
  cases o with
  | none => rfl
  | some u => exact (show False from r).elim
theorem qjh {v : V} {u : Value} (r : RelV v u) : PySem.W.handedIn u = true := by
  cases v with
  | non => cases (show u = Value.none from r); rfl
  | bl b => cases (show u = Value.bool b from r); rfl
  | int i => obtain ⟨t, e⟩ := (show ∃ t, u = Value.int i t from r); cases e; rfl
  | str x => obtain ⟨t, e⟩ := (show ∃ t, u = Value.str x t from r); cases e; rfl
  | byt b => obtain ⟨t, e⟩ := (show ∃ t, u = Value.bytes b t from r); cases e; rfl
  | flt b => obtain ⟨t, e⟩ := (show ∃ t, u = Value.float b t from r); cases e; rfl
  | ref a => cases (show u = Value.ref a from r); rfl
  | ty n => cases (show u = Value.type n from r); rfl
section
variable {P : Program} {w : World} {H H' : Hp} {h h' : Heap} {a C dx : Addr} {fs fs' : List (Str × V)}
theorem qge (hok : HOk P w H h) (e : H a = some (.ins C dx fs)) : ∃ mA, ObjM h a dx C mA ∧ (∀ f, RelO (fs.lookup f) (mA f)) ∧ PySem.Within mA (fs.map (·.1)) ∧ fs.length ≤ 1000 ∧ H dx = some (.own a) := by
  obtain ⟨d, z, ne, ob, mA, n, r, q⟩ := (show qbj P w H h a (.ins C dx fs) from hok a _ e)
  exact ⟨mA, ⟨ob, n, ne⟩, r, q, z, d⟩
end
structure Cls (K : PySem.W.Frag) (C : Addr) : Prop where
  pg : PySem.W.plainGet K C Str.empty = true
  hd : PySem.W.hasDictIn K C = true
  po : PySem.W.plainOver K C = true
  sa : PySem.W.findIn K (.ref C) "__setattr__" = some (some (.builtin "object.__setattr__"))
theorem Cls.get {K : PySem.W.Frag} {C : Addr} (c : Cls K C) (f : Str) : PySem.W.plainGet K C f = true := c.pg
def qeh (K : PySem.W.Frag) (C : Addr) (f : Str) : Prop := PySem.W.findIn K (.ref C) f = some none
theorem qeh.taker {K : PySem.W.Frag} {C : Addr} {f : Str} (n : qeh K C f) : PySem.W.takerIn K C f = some none := by
  unfold PySem.W.takerIn
  rw [show PySem.W.findIn K (.ref C) f = some none from n]
  rfl
structure Meth (K : PySem.W.Frag) (C : Addr) (m : Str) (f : Addr) : Prop where
  at_ : PySem.W.findIn K (.ref C) m = some (some (.ref f))
  fn : PySem.W.isFn K (.ref f) = true
  kp : PySem.W.keepIn K (.ref f) = true
section
variable {X : Cx} {pins : List (Addr × Obj)} {σ : St} {H : Hp} {s : Shared} {a C dx : Addr} {fs : List (Str × V)} {f : Str} {v : V} {A : Around} {E : Value → Shared → Prop}
theorem yij {b : Bool} {Q : Value → Shared → Prop} (I : Inv X pins σ H s) (e : H a = some (.ins C dx fs)) (c : Cls X.K C) (n : qeh X.K C f) (l : fs.lookup f = some v)
    (h : ∀ u s', Inv X pins σ H s' → RelV v u → Q u s') : wpAny (model X.prog X.w) A (getAttr (.ref a) f b) Q E s := by
  obtain ⟨mA, O, r, _, _, _⟩ := qge I.hok e
  obtain ⟨u, hu, ru⟩ := RelO.some_of (v := v) (o := mA f) (by rw [← l]; exact r f)
  exact get_map I.kIn O (c.get f) c.hd n hu (qjh ru) (h u _ (I.tok _) ru)
theorem ydb {m : Str} {g : Addr} {pl : Sem Bool} {Q : Value × List Value → Shared → Prop} (I : Inv X pins σ H s) (e : H a = some (.ins C dx fs)) (c : Cls X.K C) (k : Meth X.K C m g) (l : fs.lookup m = none)
    (h : Q (.ref g, [.ref a]) s) : wpAny (model X.prog X.w) A (getMethod (.ref a) m pl) Q E s := by
  obtain ⟨mA, O, r, _, _, _⟩ := qge I.hok e
  have hn : mA m = none := RelO.none_of (by rw [← l]; exact r m)
  exact get_meth I.kIn O (c.get m) k.at_ k.fn hn h
theorem yip {y : V} {u : Value} {Q : Unit → Shared → Prop} (I : Inv X pins σ H s) (e : H a = some (.ins C dx fs)) (c : Cls X.K C) (n : qeh X.K C f) (hl : fs.length < 1000) (ry : RelV y u)
    (h : ∀ s', Inv X pins σ (upd H a (.ins C dx (putF f y fs))) s' → Q () s') : wpAny (model X.prog X.w) A (setAttr (.ref a) f u) Q E s := by
  obtain ⟨mA, O, r, wi, _, ho⟩ := qge I.hok e
  have hz : (fs.map (·.1)).length ≤ sizeLine := by rw [List.length_map, sizeLine_eq]; omega
  refine set_map I.kIn O c.sa c.po n.taker c.hd wi hz fun h' O' sb => h _ ?_
  have hd : ∃ o, h'.get? dx = some o := let ⟨o, _, _, e', _⟩ := O'.ns; ⟨o, e'⟩
  refine I.write (x := a) (e := dx) (by rw [e]; exact True.intro) (.inr ho) (fun b q hb z => (sb.2 b hb).trans z) hd ?_
  refine ⟨by rw [qag O.ne]; exact ho, ?_, O.ne, O'.obj, _, O'.ns, fun g => ?_, fun g hg => ?_⟩
  · have := qdn f y fs; omega
  · show RelO ((putF f y fs).lookup g) (if g = f then some u else mA g)
    rw [ydp]
    by_cases q : g = f
    · rw [if_pos q, if_pos q]; exact ry
    · rw [if_neg q, if_neg q]; exact r g
  · by_cases q : g = f
    · rw [q]; exact (qda f y fs).1
    · refine (qda f y fs).2 g (wi g fun z => hg ?_)
      show (if g = f then some u else mA g) = none
      rw [if_neg q]; exact z
theorem Inv.made (I : Inv X pins σ H s) : Inv X pins σ (upd (upd H s.heap.objs.size (.own (s.heap.objs.size + 1))) (s.heap.objs.size + 1) (.ins C s.heap.objs.size []))
    { s with heap := (s.heap.push PySem.W.emptyDict).push (PySem.W.instObj C s.heap.objs.size) } := by
  have e1 : (s.heap.push PySem.W.emptyDict).get? s.heap.objs.size = some PySem.W.emptyDict := Heap.get?_push_size s.heap rfl
  have e2 : ((s.heap.push PySem.W.emptyDict).push (PySem.W.instObj C s.heap.objs.size)).get? (s.heap.objs.size + 1) = some (PySem.W.instObj C s.heap.objs.size) := by
    have := Heap.get?_push_size (s.heap.push PySem.W.emptyDict) (o := PySem.W.instObj C s.heap.objs.size) rfl
    rwa [Heap.size_push] at this
  have e3 : (s.heap.push PySem.W.emptyDict).Ns s.heap.objs.size (fun _ => none) := ⟨PySem.W.emptyDict, #[], _, e1, rfl, (fun e he => absurd he (by simp)), fun _ => rfl⟩
  have I1 := I.laid (a := s.heap.objs.size) (o := .own (s.heap.objs.size + 1)) (h' := s.heap.push PySem.W.emptyDict) (t' := s.toks) (fun b u q => Heap.get?_push_of_some _ q) (Nat.le_refl _) ⟨_, e1⟩
  refine I1.laid (a := s.heap.objs.size + 1) (o := .ins C s.heap.objs.size []) (t' := s.toks) (fun b u q => Heap.get?_push_of_some _ q) (Nat.le_of_eq (Heap.size_push _ _)) ?_
  have ne : s.heap.objs.size ≠ s.heap.objs.size + 1 := Nat.ne_of_lt (Nat.lt_succ_self _)
  refine ⟨by rw [qag ne, yaa], Nat.zero_le _, ne, e2, fun _ => none, (Heap.Ns1.of_empty e3).at fun o q => Heap.get?_push_of_some _ q, fun _ => True.intro, fun y hy => absurd rfl hy⟩
theorem attr_of {prog : Program} {w : World} {env : Env} {e : Expr} {f : Str} {pos : Pos} {s : Shared} {Q : Value → Shared → Prop} (hb : attributeBase e f env (eval e env) = eval e env)
    (h : wpAny (model prog w) A (eval e env) (fun o s₁ => wpAny (model prog w) A (getAttr o f true) Q E s₁) E s) : wpAny (model prog w) A (eval (.Attribute e f pos) env) Q E s :=
  Attribute_any_ h (by rw [arm_eval_Attribute, hb])
end
def tFld (K : PySem.W.Frag) (ta : TE) (f : Str) : TE := fun σ H Q => ta σ H fun x H1 => ∃ a C dx fs v, x = .ref a ∧ H1 a = some (.ins C dx fs) ∧ Cls K C ∧ qeh K C f ∧ fs.lookup f = some v ∧ Q v H1
def sFld (K : PySem.W.Frag) (ta tv : TE) (f : Str) : TS := fun D σ H => tv σ H fun y H1 => ta σ H1 fun x H2 => ∃ a C dx fs, x = .ref a ∧ H2 a = some (.ins C dx fs) ∧ Cls K C ∧ qeh K C f ∧ fs.length < 1000 ∧
  D.nx σ (upd H2 a (.ins C dx (putF f y fs)))
section
variable {X : Cx} {o e value : Expr} {f : Str} {pos pos' tpos : Pos} {ta tv : TE}
theorem pe_fld (he : PE X e ta) (hb : attributeBase e f X.env (eval e X.env) = eval e X.env) : PE X (.Attribute e f pos) (tFld X.K ta f) := by
  intro pins s σ H Q I h
  refine attr_of hb (thn (he pins s σ H _ I h) fun u s1 ⟨x, H1, I1, rx, a, C, dx, fs, v, ex, ea, c, n, l, q⟩ => ?_)
  subst ex
  obtain rfl : u = Value.ref a := rx
  exact yij I1 ea c n l fun u' s2 I2 ru => ⟨v, H1, I2, ru, q⟩
theorem ps_fld (ha : PE X o ta) (hv : PE X value tv) (hs : swapsWith value (some (.Attribute o f pos')) pos.line X.env = pure false) : PS X (.Assign [.Attribute o f pos'] value pos) (sFld X.K ta tv f) := by
  intro pins s σ H D I h
  refine plainObj_wpAny_Assign_Attribute (thn (hv pins s σ H _ I h) fun u s1 ⟨y, H1, I1, ry, q⟩ => thn (ha pins s1 σ H1 _ I1 q) fun ov s2 ⟨x, H2, I2, rx, a, C, dx, fs, ex, ea, c, n, l, q2⟩ => ?_) hs
  subst ex
  obtain rfl : ov = Value.ref a := rx
  exact yip I2 ea c n l ry fun s3 I3 => ⟨σ, _, I3, q2⟩
theorem methcall_of {pl : Sem Bool} {m : Str} {apos : Pos} {args : List Expr} {pins : List (Addr × Obj)} {s : Shared} {σ : St} {H : Hp} {Q : Value → Shared → Prop} {te : TE} (he : PE X e te) (I : Inv X pins σ H s)
    (h : te σ H fun x H1 => ∃ a C dx fs g, x = .ref a ∧ H1 a = some (.ins C dx fs) ∧ Cls X.K C ∧ Meth X.K C m g ∧ fs.lookup m = none ∧
      ∀ s1, Inv X pins σ H1 s1 → wpAny (model X.prog X.w) X.A (callWith pos (.ref g) [.ref a] (backTo pos (starEach args X.env)) (backToKw pos (keywordEach [] X.env))) Q X.xe s1)
    (ht : eval (.Call (.Attribute e m apos) args [] pos) X.env = (do
      let ov ← eval e X.env
      standAt apos.atName
      let (f, first) ← holding [ov] (getMethod ov m pl)
      callWith pos f first (backTo pos (starEach args X.env)) (backToKw pos (keywordEach [] X.env)))) :
    wpAny (model X.prog X.w) X.A (eval (.Call (.Attribute e m apos) args [] pos) X.env) Q X.xe s := by
  refine PySem.W.methodCall_KW (pl := pl) (thn (he pins s σ H _ I h) fun u s1 ⟨x, H1, I1, rx, a, C, dx, fs, g, ex, ea, c, k, l, q⟩ => ?_) ht
  subst ex
  obtain rfl : u = Value.ref a := rx
  exact ydb I1 ea c k l (q s1 I1)
end
section
variable {X : Cx} {pins : List (Addr × Obj)} {σ : St} {H : Hp} {s : Shared} {A : Around} {E : Value → Shared → Prop} {Q : Value → Shared → Prop} {c : Value} {b : Bool}
inductive TyOf (K : PySem.W.Frag) (H : Hp) : V → Value → Prop where
  | non : TyOf K H .non (.type "NoneType")
  | bl (x : Bool) : TyOf K H (.bl x) (.type "bool")
  | int (i : Int) : TyOf K H (.int i) (.type "int")
  | str (x : Str) : TyOf K H (.str x) (.type "str")
  | flt (x : UInt64) : TyOf K H (.flt x) (.type "float")
  | lst {a : Addr} {xs : List V} (e : H a = some (.lst xs)) : TyOf K H (.ref a) (.type "list")
  | frz {a : Addr} {o : Obj} {xs : List V} (e : H a = some (.frz o (.lst xs))) : TyOf K H (.ref a) (.type "list")
  | tup {a : Addr} {xs : List V} (e : H a = some (.tup xs)) : TyOf K H (.ref a) (.type "tuple")
  | dK {a : Addr} {kvs : List (Key × V)} (e : H a = some (.dK kvs)) : TyOf K H (.ref a) (.type "dict")
  | dT {a : Addr} {kvs : List (List Key × V)} (e : H a = some (.dT kvs)) : TyOf K H (.ref a) (.type "dict")
  | ins {a C dx : Addr} {fs : List (Str × V)} (e : H a = some (.ins C dx fs)) (cl : Cls K C) (ha : PySem.W.findIn K (.ref C) "__class__" = some (some (.builtin "object.__class__")))
      (hn : PySem.W.specialIn K (.builtin "object.__class__") "__get__" = some (some (.builtin "getset_descriptor.__get__"))) (htk : PySem.W.takesIn K (.builtin "object.__class__") = some true)
      (hm : PySem.W.mroIn K C (.type "object") = some true) : TyOf K H (.ref a) (.ref C)
theorem qjw {x : V} {u t : Value} (I : Inv X pins σ H s) (rx : RelV x u) (ty : TyOf X.K H x t) (e : PySem.W.kitOne X.K t c = some b) (h : ∀ tk, Q (.bool b) { s with toks := tk }) :
    wpAny (model X.prog X.w) A (call (.builtin "isinstance") [u, c]) Q E s := by
  cases ty with
  | non => cases (show u = Value.none from rx); exact PySem.W.kia_one PySem.W.kitx_none I.kIn True.intro e (fun z => nomatch z) h
  | bl y => cases (show u = Value.bool y from rx); exact PySem.W.kia_one PySem.W.kitx_bool I.kIn True.intro e (fun z => nomatch z) h
  | int i => obtain ⟨t, q⟩ := (show ∃ t, u = Value.int i t from rx); cases q; exact PySem.W.kia_one PySem.W.kitx_int I.kIn True.intro e (fun z => nomatch z) h
  | str y => obtain ⟨t, q⟩ := (show ∃ t, u = Value.str y t from rx); cases q; exact PySem.W.kia_one PySem.W.kitx_str I.kIn True.intro e (fun z => nomatch z) h
  | flt y => obtain ⟨t, q⟩ := (show ∃ t, u = Value.float y t from rx); cases q; exact PySem.W.kia_one PySem.W.kitx_float I.kIn True.intro e (fun z => nomatch z) h
  | @lst a xs ea =>
    cases (show u = Value.ref a from rx)
    obtain ⟨_, _, n, _, h1⟩ := (show qbj X.prog X.w H s.heap a (.lst xs) from I.hok a _ ea)
    exact PySem.W.kia_one PySem.W.kitx_list I.kIn ⟨_, h1, rfl⟩ e (fun z => nomatch z) h
  | @frz a ob xs ea =>
    cases (show u = Value.ref a from rx)
    obtain ⟨_, _, _, n, _, h1⟩ := (show qbj X.prog X.w H s.heap a (.frz ob (.lst xs)) from I.hok a _ ea)
    exact PySem.W.kia_one PySem.W.kitx_list I.kIn ⟨_, h1, rfl⟩ e (fun z => nomatch z) h
  | @tup a xs ea =>
    cases (show u = Value.ref a from rx)
    obtain ⟨_, _, _, p⟩ := (show qbj X.prog X.w H s.heap a (.tup xs) from I.hok a _ ea)
    obtain ⟨o, h1, h2, _⟩ := p
    exact PySem.W.kia_one PySem.W.kitx_tuple I.kIn ⟨o, h1, h2⟩ e (fun z => nomatch z) h
  | @dK a kvs ea =>
    cases (show u = Value.ref a from rx)
    obtain ⟨_, _, vs, _, p⟩ := (show qbj X.prog X.w H s.heap a (.dK kvs) from I.hok a _ ea)
    obtain ⟨o, es, ep, h1, h2, _⟩ := p
    exact PySem.W.kia_one PySem.W.kitx_dict I.kIn ⟨o, h1, h2.1⟩ e (fun z => nomatch z) h
  | @dT a kvs ea =>
    cases (show u = Value.ref a from rx)
    obtain ⟨_, _, xs, _, o, es, ep, h1, h2, _⟩ := (show qbj X.prog X.w H s.heap a (.dT kvs) from I.hok a _ ea)
    exact PySem.W.kia_one PySem.W.kitx_dict I.kIn ⟨o, h1, h2.1⟩ e (fun z => nomatch z) h
  | @ins a C dx fs ea cl ha hn htk hm =>
    cases (show u = Value.ref a from rx)
    obtain ⟨mA, O, _⟩ := qge I.hok ea
    obtain ⟨od, J, _⟩ := O.look
    exact PySem.W.kia_one (PySem.W.kitx_own (cl.get _) cl.hd ha hn htk hm) I.kIn J e (fun z => nomatch z) h
end
structure Room (k : Nat) (A : Around) : Prop where
  hd : A.handled = none
  dp : A.depth + 3 * k + 5 < recursionLimit
  un : A.units + 16 * k + 200 < cLine
  gd : A.guards = some []
theorem Room.mono {j k : Nat} {A : Around} (r : Room k A) (h : j ≤ k) : Room j A := ⟨r.hd, by have := r.dp; omega, by have := r.un; omega, r.gd⟩
theorem Room.deeper {k : Nat} {A : Around} (r : Room (k + 1) A) (env : Env) : Room k (A.deeper env) :=
  ⟨r.hd, by have := r.dp; show A.depth + 1 + 3 * k + 5 < _; omega, by have := r.un; show A.units + 3 + 16 * k + 200 < _; omega, r.gd⟩
theorem qil {A : Around} {C : Addr} {us : List Value} {kw : List (Str × Value)} : (A.under (.builtin "type.__call__" ⟨.ref C :: us, kw⟩)).depth = A.depth + 1 := by
  first | rfl | simp [Around.under, Code.weight, Code.isCreation, Code.isGuard, Code.isCaller, Code.frames, Code.isFrame, guardIds]
theorem yin {A : Around} {C : Addr} {us : List Value} {kw : List (Str × Value)} : (A.under (.builtin "type.__call__" ⟨.ref C :: us, kw⟩)).units = A.units + 1 := by
  first | rfl | simp [Around.under, Code.cUnits, Code.frames, Code.isFrame]
theorem yhm {A : Around} {C : Addr} {us : List Value} {kw : List (Str × Value)} : (A.under (.builtin "type.__call__" ⟨.ref C :: us, kw⟩)).guards = A.guards := by
  first | rfl | (unfold Around.under Code.guards; cases A.guards <;> simp [pushGuards, Code.isGuard, guardIds])
theorem Room.make {k : Nat} {A : Around} (r : Room (k + 1) A) (C : Addr) (us : List Value) (kw : List (Str × Value)) : Room k (A.under (.builtin "type.__call__" ⟨.ref C :: us, kw⟩)) :=
  ⟨r.hd, by have := r.dp; rw [qil]; omega, by have := r.un; rw [yin]; omega, by rw [yhm]; exact r.gd⟩
theorem Room.depth {k : Nat} {A : Around} (r : Room k A) : A.depth < recursionLimit := by have := r.dp; omega
theorem Room.units {k : Nat} {A : Around} (r : Room k A) : A.units + 64 < cLine := by have := r.un; omega
def tNil : TA := fun _ H Q => Q [] H
def yc4 (ta : TE) (tr : TA) : TA := fun σ H Q => ta σ H fun x H1 => tr σ H1 fun xs H2 => Q (x :: xs) H2
section
variable {X : Cx} {e : Expr} {es : List Expr} {te : TE} {t : TA} {pos : Pos}
theorem yac : PA X [] tNil := fun _ _ _ _ H Q I h => Calls.spliced_nil ⟨[], H, I, .nil, h⟩
theorem qaa (ha : PE X e te) (hr : PA X es t) (hs : starEach (e :: es) X.env = (false, eval e X.env) :: starEach es X.env := by rfl) : PA X (e :: es) (yc4 te t) := by
  intro pos pins s σ H Q I h
  rw [hs]
  show wpAny _ _ (spliced ((false, eval e X.env) :: backTo pos (starEach es X.env))) _ _ s
  refine Calls.spliced_cons (thn (ha pins s σ H _ I h) fun u s1 ⟨x, H1, I1, r1, q1⟩ => ?_)
  exact thn (hr pos pins s1 σ H1 _ I1 q1) fun us s2 ⟨xs, H2, I2, r2, q2⟩ => ⟨x :: xs, H2, I2, .cons r1 r2, q2⟩
def tTup (t : TA) : TE := fun σ H Q => t σ H fun xs H1 => xs.length ≤ sizeLine ∧ ∀ p, H1 p = none → Q (.ref p) (upd H1 p (.tup xs))
def tLst (t : TA) : TE := fun σ H Q => t σ H fun xs H1 => xs.length ≤ sizeLine ∧ ∀ p, H1 p = none → Q (.ref p) (upd H1 p (.lst xs))
theorem yeg {x1} (h : PA X es t) : PE X (.Tuple es x1 pos) (tTup t) := by
  intro pins s σ H Q I hq
  refine wpAny_Tuple_spliced (thn (h pos pins s σ H _ I hq) fun us s1 ⟨xs, H1, I1, r, z, q⟩ => ⟨by rw [← r.length]; exact z, ?_⟩)
  have hf : H1 s1.heap.objs.size = none := I1.hok.fresh (Nat.le_refl _)
  refine ⟨.ref s1.heap.objs.size, upd H1 s1.heap.objs.size (.tup xs), I1.laid (t' := s1.toks) (fun b u e => Heap.get?_push_of_some _ e) (Nat.le_refl _) ?_, rfl, q _ hf⟩
  exact ⟨z, us, r, ⟨_, Heap.get?_push_size _ rfl, rfl, _, rfl⟩⟩
theorem yb2 (h : PA X es t) : PE X (.List es pos) (tLst t) := by
  intro pins s σ H Q I hq
  refine wpAny_List_spliced (thn (h pos pins s σ H _ I hq) fun us s1 ⟨xs, H1, I1, r, z, q⟩ => ⟨by rw [← r.length]; exact z, ?_⟩)
  have hf : H1 s1.heap.objs.size = none := I1.hok.fresh (Nat.le_refl _)
  refine ⟨.ref s1.heap.objs.size, upd H1 s1.heap.objs.size (.lst xs), I1.laid (t' := s1.toks) (fun b u e => Heap.get?_push_of_some _ e) (Nat.le_refl _) ?_, rfl, q _ hf⟩
  exact ⟨z, us, 0, r, Heap.get?_push_size _ rfl⟩
end
abbrev Sp := List V → Hp → VK → XK → Prop
abbrev CXT := List Env → Hp → Shared → XK → Value → Shared → Prop
structure Env0 (P : Program) (w : World) (K : PySem.W.Frag) (mg : Str → Option Value) (base : Heap) (A : Around) (outer : List Env) (s : Shared) (H : Hp) : Prop where
  frames : A.frames = some outer
  mod : Mod K mg base
  bs : ∀ b o, base.get? b = some o → s.heap.get? b = some o ∧ H b = none
  bsz : base.objs.size ≤ s.heap.objs.size
  funs : s.heap.FunFrames base outer
  frf : ∀ b ∈ frs outer, H b = none
  hok : HOk P w H s.heap
  bare : AllBare s.gens
def CE (outer : List Env) (P : Program) (w : World) (H : Hp) (s : Shared) (Q : VK) (u : Value) (s' : Shared) : Prop :=
  ∃ v H', s'.os = s.os ∧ AllBare s'.gens ∧ Un (frs outer) [] H H' s.heap s'.heap ∧ HOk P w H' s'.heap ∧ RelV v u ∧ Q v H'
def CR (CX : CXT) (outer : List Env) (P : Program) (w : World) (H : Hp) (s : Shared) (Q : VK) (E : XK) (r : Result) (s' : Shared) : Prop :=
  match r with
  | .ok (.ret u) => CE outer P w H s Q u s'
  | .ok _ => False
  | .error e => CX outer H s E e s'
structure FnOk (P : Program) (w : World) (K : PySem.W.Frag) (mg : Str → Option Value) (base : Heap) (CX : CXT) (k : Nat) (f : Addr) (fd : FuncData) (ps : List Str) (sp : Sp) : Prop where
  len : ∀ vs H Q E, sp vs H Q E → vs.length = ps.length
  run : ∀ (A : Around) (outer : List Env) (s : Shared) (H : Hp) (args : Args) (us : List Value) (vs : List V) (Q : VK) (E : XK), Room k A → Env0 P w K mg base A outer s H → BindsTo s fd args (ps.zip us) → Vals vs us → sp vs H Q E →
    codeAny (model P w) A (.call (.ref f) args) (CR CX outer P w H s Q E) s
theorem Env0.make {P : Program} {w : World} {K : PySem.W.Frag} {mg : Str → Option Value} {base : Heap} {A : Around} {outer : List Env} {s : Shared} {H : Hp} (e : Env0 P w K mg base A outer s H) (C : Addr) (us : List Value) (kw : List (Str × Value)) :
    Env0 P w K mg base (A.under (.builtin "type.__call__" ⟨.ref C :: us, kw⟩)) outer s H := ⟨by first | exact e.frames | (simpa [Around.under, Code.envs, Code.isFrame, pushEnvs] using e.frames), e.mod, e.bs, e.bsz, e.funs, e.frf, e.hok, e.bare⟩
section
variable {X : Cx} {pins : List (Addr × Obj)} {σ : St} {H : Hp} {s s' : Shared}
theorem Inv.env0 (I : Inv X pins σ H s) : Env0 X.prog X.w X.K X.mg X.base X.A X.stack s H :=
  ⟨I.ok.frames, I.ok.mod, I.bs, Nat.le_trans I.ok.bsz I.sz, I.stack, I.stkFree, I.hok, I.bare⟩
theorem Inv.after {Q : VK} {u : Value} (I : Inv X pins σ H s) (h : CE X.stack X.prog X.w H s Q u s') : EP X pins σ Q u s' := by
  obtain ⟨v, H', os, bare, un, hok, r, q⟩ := h
  obtain ⟨hh, g, d, t, os'⟩ := s'
  obtain rfl : os' = s.os := os
  exact ⟨v, H', I.call (h' := hh) (g' := g) (d' := d) (t' := t) (ch := []) un hok bare (fun b z => absurd z (by simp)), r, q⟩
end
def tCall (sp : Sp) (dvs : List V) (E : XK) (t : TA) : TE := fun σ H Q => t σ H fun vs H1 => sp (vs ++ dvs) H1 Q E
def qjf (C : Addr) (m : Str) (sp : Sp) (dvs : List V) (E : XK) (ta : TE) (t : TA) : TE := fun σ H Q => ta σ H fun x H1 => ∃ a dx fs, x = .ref a ∧ H1 a = some (.ins C dx fs) ∧ fs.lookup m = none ∧
  t σ H1 fun vs H2 => sp (x :: (vs ++ dvs)) H2 Q E
def tMake (C : Addr) (sp : Sp) (dvs : List V) (E : XK) (t : TA) : TE := fun σ H Q => t σ H fun vs H1 => ∀ x dx, H1 x = none → H1 dx = none → dx ≠ x →
  sp (.ref x :: (vs ++ dvs)) (upd (upd H1 dx (.own x)) x (.ins C dx [])) (fun v H2 => v = .non ∧ Q (.ref x) H2) E
def qck (K : PySem.W.Frag) (fd : FuncData) (ps : List Str) (ds : List Value) : Prop :=
  ∀ (s : Shared) (us : List Value), K.In s.heap → (us ++ ds).length = ps.length → BindsTo s fd ⟨us, []⟩ (ps.zip (us ++ ds))
theorem qck.all {K : PySem.W.Frag} {fd : FuncData} {ps : List Str} (h : ∀ us : List Value, us.length = ps.length → bindArgs fd ⟨us, []⟩ = pure (ps.zip us)) : qck K fd ps [] := fun s us _ hl => by
  rw [List.append_nil] at hl ⊢
  exact .of_eq (h us hl)
def qdj (CX : CXT) (X : Cx) (E : XK) : Prop := ∀ (pins : List (Addr × Obj)) (σ : St) (H : Hp) (s : Shared) (e : Value) (s' : Shared), Inv X pins σ H s → CX X.stack H s E e s' → X.xe e s'
section
variable {X : Cx} {CX : CXT} {k : Nat} {f C : Addr} {fd : FuncData} {ps : List Str} {sp : Sp} {dvs : List V} {ds : List Value} {E : XK} {x m : Str} {p pos apos : Pos} {e o : Expr} {es : List Expr} {ta : TE} {t : TA}
theorem ykb {pins : List (Addr × Obj)} {σ : St} {H : Hp} {s : Shared} {Q : VK} {us : List Value} {vs : List V} (F : FnOk X.prog X.w X.K X.mg X.base CX k f fd ps sp) (hr : Room k X.A) (hb : qck X.K fd ps ds) (hd : Vals dvs ds) (hx : qdj CX X E)
    (I : Inv X pins σ H s) (r : Vals vs us) (h : sp (vs ++ dvs) H Q E) : wpAny (model X.prog X.w) X.A (call (.ref f) us) (EP X pins σ Q) X.xe s := by
  have r2 : Vals (vs ++ dvs) (us ++ ds) := r.append hd
  have hl : (us ++ ds).length = ps.length := by rw [← r2.length]; exact F.len _ _ _ _ h
  refine wpAny_call (codeAny_mono (F.run X.A X.stack s H ⟨us, []⟩ (us ++ ds) (vs ++ dvs) Q E hr I.env0 (hb s us I.kIn hl) r2 h) fun r s' hq => ?_)
  cases r with
  | error e => exact hx pins σ H s e s' I hq
  | ok fl =>
    cases fl with
    | ret u => exact I.after hq
    | next => exact False.elim hq
    | brk => exact False.elim hq
    | cont => exact False.elim hq
theorem yjc (F : FnOk X.prog X.w X.K X.mg X.base CX k f fd ps sp) (hr : Room k X.A) (hg : Gl X x) (hm : X.mg x = some (.ref f)) (hk : PySem.W.keepIn X.K (.ref f) = true) (hb : qck X.K fd ps ds) (hd : Vals dvs ds) (hx : qdj CX X E)
    (ha : PA X (e :: es) t) (hdb : (x == ("__debug__" : Str)) = false := by decide) (he : starEach (e :: es) X.env = (false, eval e X.env) :: starEach es X.env := by rfl) (hpl : (backTo pos (starEach es X.env)).any (·.1) = false := by rfl) :
    PE X (.Call (.Name x p) (e :: es) [] pos) (tCall sp dvs E t) := by
  intro pins s σ H Q I h
  refine wpAny_Call_Name_kw (ydm I hg hm ?_ hdb)
  refine PySem.W.callWith_K (h₀ := X.base) I.ok.mod.kin hk (thn (ha pos pins s σ H _ I h) fun us s1 ⟨vs, H1, I1, r, q⟩ => ⟨I1.kIn, ?_⟩) he hpl
  exact ykb F hr hb hd hx I1 r q
theorem ykm {pl : Sem Bool} (he : PE X o ta) (c : Cls X.K C) (hm : Meth X.K C m f) (F : FnOk X.prog X.w X.K X.mg X.base CX k f fd ps sp) (hr : Room k X.A) (hb : qck X.K fd ps ds) (hd : Vals dvs ds) (hx : qdj CX X E) (ha : PA X (e :: es) t)
    (hst : starEach (e :: es) X.env = (false, eval e X.env) :: starEach es X.env := by rfl) (hpl : (backTo pos (starEach es X.env)).any (·.1) = false := by rfl)
    (ht : eval (.Call (.Attribute o m apos) (e :: es) [] pos) X.env = (do
      let ov ← eval o X.env
      standAt apos.atName
      let (f, first) ← holding [ov] (getMethod ov m pl)
      callWith pos f first (backTo pos (starEach (e :: es) X.env)) (backToKw pos (keywordEach [] X.env))) := by rfl) :
    PE X (.Call (.Attribute o m apos) (e :: es) [] pos) (qjf C m sp dvs E ta t) := by
  intro pins s σ H Q I h
  refine PySem.W.methodCall_KW (pl := pl) (thn (he pins s σ H _ I h) fun u s1 ⟨x, H1, I1, rx, a, dx, fs, ex, ea, l, q⟩ => ?_) ht
  subst ex
  obtain rfl : u = Value.ref a := rx
  refine ydb I1 ea c hm l ?_
  refine PySem.W.callWith_K (first := [.ref a]) (h₀ := X.base) I.ok.mod.kin hm.kp (thn (ha pos pins s1 σ H1 _ I1 q) fun us s2 ⟨vs, H2, I2, r, q2⟩ => ⟨I2.kIn, ?_⟩) hst hpl
  exact ykb (us := .ref a :: us) (vs := .ref a :: vs) F hr hb hd hx I2 (.cons rfl r) q2
theorem pe_meth0 {pl : Sem Bool} (he : PE X o ta) (c : Cls X.K C) (hm : Meth X.K C m f) (F : FnOk X.prog X.w X.K X.mg X.base CX k f fd ps sp) (hr : Room k X.A) (hb : qck X.K fd ps ds) (hd : Vals dvs ds) (hx : qdj CX X E)
    (ht : eval (.Call (.Attribute o m apos) [] [] pos) X.env = (do
      let ov ← eval o X.env
      standAt apos.atName
      let (f, first) ← holding [ov] (getMethod ov m pl)
      callWith pos f first (backTo pos (starEach [] X.env)) (backToKw pos (keywordEach [] X.env))) := by rfl) :
    PE X (.Call (.Attribute o m apos) [] [] pos) (qjf C m sp dvs E ta tNil) := by
  intro pins s σ H Q I h
  refine PySem.W.methodCall_KW (pl := pl) (thn (he pins s σ H _ I h) fun u s1 ⟨x, H1, I1, rx, a, dx, fs, ex, ea, l, q⟩ => ?_) ht
  subst ex
  obtain rfl : u = Value.ref a := rx
  refine ydb I1 ea c hm l ?_
  exact PySem.W.callWith_K0 (first := [.ref a]) I1.kIn hm.kp (ykb (us := [.ref a]) (vs := [.ref a]) F hr hb hd hx I1 (.cons rfl .nil) q)
structure Mk (K : PySem.W.Frag) (C f : Addr) : Prop where
  makes : PySem.W.makesIn K C = true
  init : PySem.W.findIn K (.ref C) "__init__" = some (some (.ref f))
  fn : PySem.W.isFn K (.ref f) = true
  kp : PySem.W.keepIn K (.ref C) = true
theorem run_make {pins : List (Addr × Obj)} {σ : St} {H : Hp} {s : Shared} {Q : VK} {us : List Value} {vs : List V} (M : Mk X.K C f) (F : FnOk X.prog X.w X.K X.mg X.base CX k f fd ps sp) (hr : Room (k + 1) X.A) (hb : qck X.K fd ps ds) (hd : Vals dvs ds)
    (hx : qdj CX X E) (I : Inv X pins σ H s) (r : Vals vs us)
    (h : ∀ x dx, H x = none → H dx = none → dx ≠ x → sp (.ref x :: (vs ++ dvs)) (upd (upd H dx (.own x)) x (.ins C dx [])) (fun v H2 => v = .non ∧ Q (.ref x) H2) E) :
    wpAny (model X.prog X.w) X.A (call (.ref C) us) (EP X pins σ Q) X.xe s := by
  have hq := h (s.heap.objs.size + 1) s.heap.objs.size (I.hok.fresh (Nat.le_succ _)) (I.hok.fresh (Nat.le_refl _)) (Nat.ne_of_lt (Nat.lt_succ_self _))
  have I2 := Inv.made (C := C) I
  have r2 : Vals (V.ref (s.heap.objs.size + 1) :: (vs ++ dvs)) (Value.ref (s.heap.objs.size + 1) :: (us ++ ds)) := .cons rfl (r.append hd)
  have hl : (Value.ref (s.heap.objs.size + 1) :: us ++ ds).length = ps.length := by
    have e := r2.length
    rw [F.len _ _ _ _ hq] at e
    exact e.symm
  refine wpAny_call (qii (f := f) I.kIn M.makes M.init (beq_iff_eq.mp M.fn) (codeAny_mono (F.run _ X.stack _ _ ⟨Value.ref (s.heap.objs.size + 1) :: us, []⟩ (Value.ref (s.heap.objs.size + 1) :: (us ++ ds)) _ _ E (hr.make C us [])
    (I2.env0.make C us []) (hb _ (Value.ref (s.heap.objs.size + 1) :: us) I2.kIn hl) r2 hq) fun r s' hq' => ?_))
  cases r with
  | error e => exact hx pins σ _ _ e s' I2 hq'
  | ok fl =>
    cases fl with
    | ret u =>
      obtain ⟨v, H', I3, rv, ev, q3⟩ := I2.after hq'
      subst ev
      exact ⟨rv, ⟨V.ref (s.heap.objs.size + 1), H', I3, rfl, q3⟩⟩
    | next => exact False.elim hq'
    | brk => exact False.elim hq'
    | cont => exact False.elim hq'
theorem pe_make (M : Mk X.K C f) (F : FnOk X.prog X.w X.K X.mg X.base CX k f fd ps sp) (hr : Room (k + 1) X.A) (hg : Gl X x) (hm : X.mg x = some (.ref C)) (hb : qck X.K fd ps ds) (hd : Vals dvs ds) (hx : qdj CX X E)
    (ha : PA X (e :: es) t) (hdb : (x == ("__debug__" : Str)) = false := by decide) (he : starEach (e :: es) X.env = (false, eval e X.env) :: starEach es X.env := by rfl) (hpl : (backTo pos (starEach es X.env)).any (·.1) = false := by rfl) :
    PE X (.Call (.Name x p) (e :: es) [] pos) (tMake C sp dvs E t) := by
  intro pins s σ H Q I h
  refine wpAny_Call_Name_kw (ydm I hg hm ?_ hdb)
  refine PySem.W.callWith_K (h₀ := X.base) I.ok.mod.kin M.kp (thn (ha pos pins s σ H _ I h) fun us s1 ⟨vs, H1, I1, r, q⟩ => ⟨I1.kIn, ?_⟩) he hpl
  exact run_make M F hr hb hd hx I1 r q
end
section
variable {X : Cx} {CX : CXT} {k : Nat} {f C : Addr} {fd : FuncData} {ps ks : List Str} {sp : Sp} {E : XK} {x m : Str} {p pos apos kpos : Pos} {e o : Expr} {es : List Expr} {kws : List Keyword} {te ta : TE} {t tk : TA} {nm : Option Str}
variable {g : List Value → List Value → List Value} {gV : List V → List V → List V}
end
structure FnScope (N P : List Str) (sc : Scope) : Prop where
  kind : sc.kind = .function
  co : sc.isCoroutine = false
  gen : sc.isGenerator = false
  nd : N.Nodup
  pre : N.take P.length = P
  par : ∀ x ∈ P, sc.names.lookup x = some .local ∨ sc.names.lookup x = some .cell
  nofree : ∀ y ∈ sc.names, y.2 ≠ .free
theorem qgr {kindOf : Str → Option NameKind} {x : Str} : ∀ {binds : List (Str × Value)} {m : Str → Option Value}, (∀ v, (x, v) ∉ binds) → bindL kindOf binds m x = m x
  | [], _, _ => rfl
  | (n, v) :: r, m, h => by
    unfold bindL
    rw [qgr fun w hw => h w (List.mem_cons_of_mem _ hw)]
    split
    · have : x ≠ n := by rintro rfl; exact h v List.mem_cons_self
      simp [this]
    · rfl
theorem ygo {kindOf : Str → Option NameKind} {x : Str} : ∀ {binds : List (Str × Value)} {m : Str → Option Value}, (∀ v, (x, v) ∉ binds) → bindC kindOf binds m x = m x
  | [], _, _ => rfl
  | (n, v) :: r, m, h => by
    unfold bindC
    rw [ygo fun w hw => h w (List.mem_cons_of_mem _ hw)]
    split
    · rfl
    · have : x ≠ n := by rintro rfl; exact h v List.mem_cons_self
      simp [this]
theorem qgl {kindOf : Str → Option NameKind} {x : Str} {v : Value} : ∀ {P : List Str} {vs : List Value} {i : Nat} {m : Str → Option Value}, P.Nodup → P[i]? = some x → vs[i]? = some v → kindOf x = some .local →
    bindL kindOf (P.zip vs) m x = some v
  | [], _, _, _, _, h, _, _ => by simp at h
  | _ :: _, [], _, _, _, _, h, _ => by simp at h
  | p :: P, w :: vs, 0, m, nd, h1, h2, hk => by
    simp at h1 h2; subst h1; subst h2
    show bindL kindOf ((p, w) :: P.zip vs) m p = _
    unfold bindL
    rw [qgr fun v hv => (List.nodup_cons.mp nd).1 (List.of_mem_zip hv).1, if_pos hk]
    simp
  | p :: P, w :: vs, i + 1, m, nd, h1, h2, hk => by
    show bindL kindOf ((p, w) :: P.zip vs) m x = _
    unfold bindL
    exact qgl (i := i) (List.nodup_cons.mp nd).2 (by simpa using h1) (by simpa using h2) hk
theorem qgx {kindOf : Str → Option NameKind} {x : Str} {v : Value} : ∀ {P : List Str} {vs : List Value} {i : Nat} {m : Str → Option Value}, P.Nodup → P[i]? = some x → vs[i]? = some v → kindOf x ≠ some .local →
    bindC kindOf (P.zip vs) m x = some v
  | [], _, _, _, _, h, _, _ => by simp at h
  | _ :: _, [], _, _, _, _, h, _ => by simp at h
  | p :: P, w :: vs, 0, m, nd, h1, h2, hk => by
    simp at h1 h2; subst h1; subst h2
    show bindC kindOf ((p, w) :: P.zip vs) m p = _
    unfold bindC
    rw [ygo fun v hv => (List.nodup_cons.mp nd).1 (List.of_mem_zip hv).1, if_neg hk]
    simp
  | p :: P, w :: vs, i + 1, m, nd, h1, h2, hk => by
    show bindC kindOf ((p, w) :: P.zip vs) m x = _
    unfold bindC
    exact qgx (i := i) (List.nodup_cons.mp nd).2 (by simpa using h1) (by simpa using h2) hk
def ydo (N : List Str) (vs : List V) : St := vs.map some ++ List.replicate (N.length - vs.length) none
def cxOf (CX : CXT) (P : Program) (w : World) (K : PySem.W.Frag) (mg : Str → Option Value) (base : Heap) (N : List Str) (qual : Str) (scope : Scope) (f : Addr) (cd : Value) (A : Around) (outer : List Env) (s : Shared) (H : Hp) (E : XK) : Cx where
  prog := P
  w := w
  K := K
  mg := mg
  base := base
  A := A.deeper (envOfC qual scope s.heap.objs.size f cd)
  N := N
  s₀ := s
  H₀ := H
  env := envOfC qual scope s.heap.objs.size f cd
  outer := outer
  stack := envOfC qual scope s.heap.objs.size f cd :: outer
  ex := []
  calm := true
  fn := fun _ => true
  pn := []
  xe := fun e s' => wpAny (model P w) (A.deeper (envOfC qual scope s.heap.objs.size f cd)) (leaving (envOfC qual scope s.heap.objs.size f cd) e) (fun _ s'' => CX outer H s E e s'') (fun e' s'' => CX outer H s E e' s'') s'
theorem yie {sc : Scope} {n : Nat} {x : Str} (h : sc.names.lookup x = some .cell) : ∃ c, (cellsFrom n sc.names []).lookup x = some c := by
  have q := PySem.W.cellsFrom_some sc.names n [] (.inl h)
  exact Option.isSome_iff_exists.mp q
theorem qkl {CX : CXT} {P : Program} {w : World} {K : PySem.W.Frag} {mg : Str → Option Value} {base : Heap} {N ps : List Str} {qual : Str} {scope : Scope} {f : Addr} {cd : Value} {A : Around} {outer : List Env} {s s1 : Shared} {H : Hp} {E : XK} {us : List Value} {vs : List V}
    (S : FnScope N ps scope) (hd : A.handled = none) (e0 : Env0 P w K mg base A outer s H) (hl : vs.length = ps.length) (r : Vals vs us)
    (x : InCallC s s.heap.objs.size (bindL (envOfC qual scope s.heap.objs.size f cd).kindOf (ps.zip us) fun _ => none) (cellsFrom (s.heap.objs.size + 1) scope.names []) (bindC (envOfC qual scope s.heap.objs.size f cd).kindOf (ps.zip us) fun _ => none) s1) :
    Inv (cxOf CX P w K mg base N qual scope f cd A outer s H E) [] (ydo N vs) H s1 := by
  have hpl : ps.length ≤ N.length := by have := congrArg List.length S.pre; rw [List.length_take] at this; omega
  obtain ⟨h1, tk, rfl, hk⟩ := x.done
  have noA : ∀ b : Addr, b ∉ (cxOf CX P w K mg base N qual scope f cd A outer s H E).ex := fun b z => absurd (show b ∈ ([] : List Addr) from z) (by simp)
  refine ⟨⟨e0.mod, S.kind, rfl, rfl, Nat.le_refl _, fun y z c h1 h2 => ?_, fun y hy => ?_, fun y c _ h => ?_, fun _ => hd, Around.frames_deeper e0.frames, .inr ⟨rfl, rfl⟩, fun b z => absurd z (noA b), e0.bs, e0.bsz, fun b _ _ => noA b, fun b z => absurd z (noA b), e0.funs, e0.frf⟩,
    rfl, e0.bare, Un.kept hk, ⟨_, x.toInCall.ns, fun i y v h1 h2 h3 => ?_⟩, fun y c h => ⟨_, x.cell y c h⟩, e0.hok.fresh (Nat.le_refl _), fun y c h => ?_, fun p hp => absurd (show p ∈ ([] : List (Addr × Obj)) from hp) (by simp), e0.hok.kept hk, ?_⟩
  · exact name_of_addr x.apart (PySem.mem_of_lookup h1) (PySem.mem_of_lookup h2)
  · have hy : scope.names.lookup y = some .cell ∨ scope.names.lookup y = some .free := hy
    rcases hy with hy | hy
    · exact yie hy
    · exact absurd rfl (S.nofree _ (PySem.mem_of_lookup hy))
  · exact Nat.le_of_lt (x.above y c (PySem.mem_of_lookup h))
  · have hi : i < vs.length := by
      unfold ydo at h2
      by_cases hi : i < vs.length
      · exact hi
      · rw [List.getElem?_append_right (by simpa using hi)] at h2
        rw [List.getElem?_replicate] at h2
        split at h2 <;> cases h2
    have ha : vs[i]? = some v := by
      unfold ydo at h2
      rw [List.getElem?_append_left (by simpa using hi), List.getElem?_map] at h2
      cases e : vs[i]? with
      | none => rw [e] at h2; cases h2
      | some a => rw [e] at h2; cases h2; rfl
    obtain ⟨u, hu, rv⟩ := r.get ha
    have hp : ps[i]? = some y := by
      rw [← S.pre, List.getElem?_take_of_lt (by omega)]; exact h1
    have ndP : ps.Nodup := by rw [← S.pre]; exact S.nd.sublist (List.take_sublist _ _)
    refine ⟨u, rv, ?_⟩
    rcases S.par y (List.mem_of_getElem? hp) with k | k
    · exact .inl ⟨k, qgl ndP hp hu k⟩
    · obtain ⟨c, e⟩ := yie (n := s.heap.objs.size + 1) k
      refine .inr ⟨.inl k, c, e, ?_⟩
      have q := x.cell y c e
      rw [qgx ndP hp hu (by show scope.names.lookup y ≠ _; rw [k]; decide)] at q
      exact q
  · exact e0.hok.fresh (Nat.le_of_lt (x.above y c (PySem.mem_of_lookup h)))
  · unfold ydo
    show _ = N.length
    rw [List.length_append, List.length_map, List.length_replicate]
    omega
theorem fn_of {CX : CXT} {P : Program} {w : World} {K : PySem.W.Frag} {mg : Str → Option Value} {base : Heap} {k : Nat} {f : Addr} {name qual : Str} {params : Arguments} {body : List Stmt} {scope : Scope} {dV kV doc pm cdv ct oc : Value} {an od : Option Addr}
    {osl : Array (Option Value)} {N ps : List Str} {sp : Sp} (lk : K.lookup f = some ⟨oc, od, .func (PySem.W.fnOf name qual params body scope dV kV doc pm an cdv ct), osl⟩) (hcd : PySem.W.codeIn K cdv qual = true) (S : FnScope N ps scope)
    (len : ∀ vs H Q E, sp vs H Q E → vs.length = ps.length)
    (hbody : ∀ (A : Around) (outer : List Env) (s : Shared) (H : Hp) (vs : List V) (Q : VK) (E : XK), Room k (A.deeper (envOfC qual scope s.heap.objs.size f cdv)) → sp vs H Q E →
      ∃ t, PSs (cxOf CX P w K mg base N qual scope f cdv A outer s H E) body t ∧ t { nx := fun _ H' => Q .non H', rt := Q } (ydo N vs) H) :
    FnOk P w K mg base CX (k + 1) f (PySem.W.fnOf name qual params body scope dV kV doc pm an cdv ct) ps sp := by
  refine ⟨len, fun A outer s H args us vs Q E hr e0 hb r hsp => ?_⟩
  have hl := len _ _ _ _ hsp
  have KX : K.In s.heap := e0.mod.kin.keeps fun b o e => (e0.bs b o e).1
  have lim : s.heap.NoLimit := e0.mod.nolimit.keeps fun b o e => (e0.bs b o e).1
  have hkind : ∀ y ∈ ps.zip us, scope.names.lookup y.1 = some .local ∨ (scope.names.lookup y.1 = some .cell ∧ ((cellsFrom (s.heap.objs.size + 1) scope.names []).lookup y.1).isSome = true) := fun ⟨n, v⟩ hy => by
    rcases S.par n (List.of_mem_zip hy).1 with q | q
    · exact .inl q
    · exact .inr ⟨q, PySem.W.cellsFrom_some _ _ _ (.inl q)⟩
  refine codeAny_call_function hr.depth (KX _ _ lk) rfl S.co S.gen rfl (PySem.W.codeRec_of KX hcd) (hb _ _ _ _ ?_)
  refine wpAny_newFunctionEnv_cells S.kind hkind fun env he s1 x => ?_
  subst he
  refine ⟨lim.keeps x.toInCall.keep, codeAny_func ?_⟩
  obtain ⟨t, ht, hq⟩ := hbody A outer s H vs Q E (hr.deeper _) hsp
  have I : Inv (cxOf CX P w K mg base N qual scope f cdv A outer s H E) [] (ydo N vs) H s1 := qkl S hr.hd e0 hl r x
  refine wpAny_mono (ht [] s1 (ydo N vs) H _ I hq) (fun fl s' hs => ?_) fun e s' hs => hs
  have fin : ∀ {σ' : St} {H' : Hp} {v : V} {u : Value}, Inv (cxOf CX P w K mg base N qual scope f cdv A outer s H E) [] σ' H' s' → RelV v u → Q v H' → CE outer P w H s Q u s' :=
    fun {σ' H' v u} J rv q => ⟨v, H', J.os, J.bare, J.base, J.hok, rv, q⟩
  cases fl with
  | ret u =>
    obtain ⟨v, σ', H', J, rv, q⟩ := hs
    exact fin J rv q
  | next =>
    obtain ⟨σ', H', J, q⟩ := hs
    exact fin (v := V.non) (u := Value.none) J rfl q
  | brk =>
    obtain ⟨_, _, _, q⟩ := hs
    exact False.elim q
  | cont =>
    obtain ⟨_, _, _, q⟩ := hs
    exact False.elim q
section
variable {X : Cx} {x : Str} {p pos : Pos} {e : Expr} {es : List Expr} {t : TA} {id T : String} {r : List V → Hp → VK → Prop}
def tCB (r : List V → Hp → VK → Prop) (t : TA) : TE := fun σ H Q => t σ H fun vs H1 => r vs H1 Q
theorem qae (hc : ycz X (.builtin id) r) (hg : Gl X x) (hm : X.mg x = none) (hv : bootBuiltins x = some (.builtin id)) (ha : PA X (e :: es) t) (hn : x ≠ "__name__" := by decide) (hdb : (x == ("__debug__" : Str)) = false := by decide)
    (he : starEach (e :: es) X.env = (false, eval e X.env) :: starEach es X.env := by rfl) (hpl : (backTo pos (starEach es X.env)).any (·.1) = false := by rfl) : PE X (.Call (.Name x p) (e :: es) [] pos) (tCB r t) := by
  intro pins s σ H Q I h
  refine wpAny_Call_Name_kw (yf0 I hg hm hv ?_ hn hdb)
  exact PyProof.Rows.callWith_builtin1 (thn (ha pos pins s σ H _ I h) fun us s1 ⟨vs, H1, I1, r1, q1⟩ => hc pins s1 σ H1 vs us Q I1 r1 q1) he hpl
theorem yc7 (hc : ycz X (.type T) r) (hg : Gl X x) (hm : X.mg x = none) (hv : bootBuiltins x = some (.type T)) (ha : PA X (e :: es) t) (hn : x ≠ "__name__" := by decide) (hdb : (x == ("__debug__" : Str)) = false := by decide)
    (he : starEach (e :: es) X.env = (false, eval e X.env) :: starEach es X.env := by rfl) (hpl : (backTo pos (starEach es X.env)).any (·.1) = false := by rfl) : PE X (.Call (.Name x p) (e :: es) [] pos) (tCB r t) := by
  intro pins s σ H Q I h
  refine wpAny_Call_Name_kw (yf0 I hg hm hv ?_ hn hdb)
  exact PyProof.Rows.callWith_type1 (thn (ha pos pins s σ H _ I h) fun us s1 ⟨vs, H1, I1, r1, q1⟩ => hc pins s1 σ H1 vs us Q I1 r1 q1) he hpl
end
end L2
namespace HT
open PySem PyProof.Rows
section
open PySem.SeqAt
open PySem.AutoSeq1 (wpAny_loadPart')
open PySem.MeetsSeq PySem.MeetsSeq2 PySem.MeetsSeq3
end
section
variable {prog : Program} {w : World} {A : Around} {E : Value → Shared → Prop} {s : Shared}
def sIx (n d : Nat) : Option Int → Nat
  | none => d
  | some v => if v < 0 then (v + (n : Int)).toNat else min v.toNat n
theorem sIx_none (n d : Nat) : sIx n d none = d := rfl
theorem sIx_nat (n d k : Nat) : sIx n d (some (k : Int)) = min k n := by
  show (if (k : Int) < 0 then ((k : Int) + (n : Int)).toNat else min (k : Int).toNat n) = min k n
  rw [if_neg (by omega), Int.toNat_natCast]
theorem sIx_le (n d : Nat) (hd : d ≤ n) (o : Option Int) : sIx n d o ≤ n := by
  cases o with
  | none => exact hd
  | some v =>
    show (if v < 0 then (v + (n : Int)).toNat else min v.toNat n) ≤ n
    by_cases hv : v < 0
    · rw [if_pos hv]; omega
    · rw [if_neg hv]; exact Nat.min_le_right _ _
theorem qi9 (v : Int) (n d : Nat) : (if v < 0 then max (v + (n : Int)) 0 else min v (n : Int)) = ((sIx n d (some v) : Nat) : Int) := by
  show (if v < 0 then max (v + (n : Int)) 0 else min v (n : Int)) = (((if v < 0 then (v + (n : Int)).toNat else min v.toNat n) : Nat) : Int)
  by_cases hv : v < 0
  · simp only [if_pos hv]; omega
  · simp only [if_neg hv]; omega
theorem qiy (lo hi : Option Int) (n : Nat) : Builtin.Slice.sliceAdjust lo hi 1 (n : Int) = (((sIx n 0 lo : Nat) : Int), ((sIx n n hi : Nat) : Int)) := by
  have h1 : ¬ ((1 : Int) < 0) := by omega
  unfold Builtin.Slice.sliceAdjust
  simp only [h1, if_false]
  refine Prod.ext ?_ ?_
  · cases lo with
    | none => rfl
    | some v => exact qi9 v n 0
  · cases hi with
    | none => rfl
    | some v => exact qi9 v n n
theorem qip (i j : Nat) : Builtin.Slice.slicePlaces (i : Int) (j : Int) 1 = j - i := by
  unfold Builtin.Slice.slicePlaces
  have h1 : (1 : Int) > 0 := by omega
  simp only [h1, if_true, Int.ediv_one]
  split <;> omega
theorem qf3 {v : Value} {o : Option Int} {Q : Option Int → Shared → Prop} (p : IsPart v o) (h : Q o s) : wpAny (model prog w) A (Builtin.Slice.slicePartIndex v) Q E s := by
  cases p with
  | none => exact slicePart_none h
  | int i t => exact slicePart_int h
theorem qep {sl : Addr} {vl vu : Value} {lo hi : Option Int} {n : Nat} {Q : Int × Int × Nat → Shared → Prop} (hs : s.heap.IsSliceOf sl vl vu .none) (pl : IsPart vl lo) (pu : IsPart vu hi)
    (h : Q (((sIx n 0 lo : Nat) : Int), 1, sIx n n hi - sIx n 0 lo) s) : wpAny (model prog w) A (Builtin.Slice.sliceApplied (.ref sl) (pure (n : Int))) Q E s := by
  obtain ⟨os, hos, hcs, hds⟩ := id hs
  unfold Builtin.Slice.sliceApplied Builtin.Slice.sliceFields
  refine wpAny_bind (wpAny_bind (wpAny_field hos hds (x := vl) rfl (wpAny_bind (wpAny_field hos hds (x := vu) rfl (wpAny_bind (wpAny_field hos hds (x := .none) rfl (wpAny_pure ?_)))))))
  refine wpAny_bind (slicePart_none ?_)
  show wpAny _ _ (if ((1 : Int) == 0) = true then _ else _) _ _ s
  rw [if_neg (by decide)]
  refine wpAny_bind (qf3 pl (wpAny_bind (qf3 pu (wpAny_bind (wpAny_pure ?_)))))
  show wpAny _ _ (match Builtin.Slice.sliceAdjust lo hi 1 (n : Int) with | (lo, hi) => pure (lo, (1 : Int), Builtin.Slice.slicePlaces lo hi 1)) _ _ s
  rw [qiy lo hi n]
  show wpAny _ _ (pure (((sIx n 0 lo : Nat) : Int), (1 : Int), Builtin.Slice.slicePlaces ((sIx n 0 lo : Nat) : Int) ((sIx n n hi : Nat) : Int) 1)) _ _ s
  rw [qip]
  exact wpAny_pure h
theorem pick_gen (xs : Array Value) (i k : Nat) : ((List.range k).filterMap fun (m : Nat) => xs[((i : Int) + (m : Int) * 1).toNat]?).toArray = ((xs.toList.drop i).take k).toArray := by
  have e : (fun (m : Nat) => xs[((i : Int) + (m : Int) * 1).toNat]?) = fun m => xs[i + m]? := by
    funext m
    have : ((i : Int) + (m : Int) * 1).toNat = i + m := by omega
    rw [this]
  rw [e]
  have := pick_run xs i k
  rw [List.filterMap_map] at this
  have e2 : ((fun x => xs[x]?) ∘ fun x => i + x) = fun m => xs[i + m]? := rfl
  rw [e2] at this
  rw [this]
theorem getItem_tuple_cut {t sl : Addr} {items : Array Value} {vl vu : Value} {lo hi : Option Int} {Q : Value → Shared → Prop} (ht : IsTup s.heap t items) (hs : s.heap.IsSliceOf sl vl vu .none) (pl : IsPart vl lo) (pu : IsPart vu hi)
    (hw : ¬ (sIx items.size 0 lo = 0 ∧ sIx items.size items.size hi = items.size))
    (h : Q (.ref s.heap.objs.size) { s with heap := s.heap.push { cls := .type "tuple", data := .seq ((items.toList.drop (sIx items.size 0 lo)).take (sIx items.size items.size hi - sIx items.size 0 lo)).toArray } })
    (hsz : items.size ≤ sizeLine) : wpAny (model prog w) A (getItem (.ref t) (.ref sl)) Q E s := by
  have htake : sizeOk (.seq ((items.toList.drop (sIx items.size 0 lo)).take (sIx items.size items.size hi - sIx items.size 0 lo)).toArray) := by
    show ((items.toList.drop (sIx items.size 0 lo)).take (sIx items.size items.size hi - sIx items.size 0 lo)).toArray.size ≤ sizeLine
    rw [List.size_toArray, List.length_take, List.length_drop, Array.length_toList]
    omega
  have hj : sIx items.size items.size hi ≤ items.size := sIx_le _ _ (Nat.le_refl _) hi
  obtain ⟨os, hos, hcs, hds⟩ := id hs
  have hTs : s.TypeIs (.ref sl) "slice" := ⟨os, hos, hcs⟩
  unfold getItem
  try with_reducible refine wpAny_holding ?_
  first | refine wpAny_bind (wpAny_pure ?_) | skip
  refine wpAny_bind (wpAny_sequenceKey ht.typeIs (by decide) ?_)
  refine wpAny_bind (wpAny_callSpecial?_slot (name := Str.ofString "__getitem__") ht.typeIs PyProof.Rows.slot_tuple_getitem
    (wpAny_call_entry PyProof.Rows.slot_tuple_getitem ht.typeIs entry_tuple_getitem ?_ (args_tuple_getitem _ _)))
  show wpAny _ _ (Builtin.Tuple.tupleItemsOf (.ref t) >>= _) _ _ s
  refine wpAny_bind (tupleItemsOf_ ht ?_)
  refine wpAny_bind (wpAny_typeOf hTs ?_)
  rw [if_pos (by decide)]
  refine wpAny_bind (qep hs pl pu ?_)
  have hno : ¬ ((((sIx items.size 0 lo : Nat) : Int) == 0 && (1 : Int) == 1 && (sIx items.size items.size hi - sIx items.size 0 lo) == items.size) = true) := by
    intro q
    rw [Bool.and_eq_true, Bool.and_eq_true] at q
    have q1 : ((sIx items.size 0 lo : Nat) : Int) = 0 := eq_of_beq q.1.1
    have q2 : sIx items.size items.size hi - sIx items.size 0 lo = items.size := eq_of_beq q.2
    exact hw ⟨by omega, by omega⟩
  show wpAny _ _ (if (((sIx items.size 0 lo : Nat) : Int) == 0 && (1 : Int) == 1 && (sIx items.size items.size hi - sIx items.size 0 lo) == items.size) = true then _ else _) _ _ s
  rw [if_neg hno, pick_gen]
  first
    | exact wpAny_bind (m := Builtin.Tuple.tupleExact _) (wpAny_newObj_type (wpAny_pure ⟨_, rfl, wpAny_pure h⟩) htake)
    | exact wpAny_bind (m := Builtin.Tuple.tupleExact _) (wpAny_newObj_type (wpAny_bind (wpAny_pure (wpAny_pure ⟨_, rfl, wpAny_pure h⟩))) htake)
    | exact wpAny_bind (wpAny_bind (m := Builtin.Tuple.tupleExact _) (wpAny_newObj_type (wpAny_pure (wpAny_pure ⟨_, rfl, wpAny_pure h⟩)) htake))
    | exact wpAny_bind (wpAny_bind (m := Builtin.Tuple.tupleExact _) (wpAny_newObj_type (wpAny_pure ⟨_, rfl, wpAny_pure h⟩) htake))
end
end HT
namespace L2
open PySem PySem.Spec PyProof.Rows
abbrev TO := St → Hp → (Option Int → Hp → Prop) → Prop
def PO (X : Cx) (e : Option Expr) (t : TO) : Prop :=
  ∀ (pins : List (Addr × Obj)) (s : Shared) (σ : St) (H : Hp) (Q : Option Int → Hp → Prop), Inv X pins σ H s → t σ H Q →
    wpAny (model X.prog X.w) X.A (evalPart e X.env) (fun u s' => ∃ o H', Inv X pins σ H' s' ∧ IsPart u o ∧ Q o H') X.xe s
def yga : TO := fun _ H Q => Q none H
def tPart (t : TE) : TO := fun σ H Q => t σ H fun x H1 => ∃ i, x = .int i ∧ Q (some i) H1
theorem qis {ns : List Int} : ∀ {us : List Value}, Vals (ns.map V.int) us → IntsAre us ns := by
  induction ns with
  | nil => intro us r; rw [List.map_nil] at r; cases r; exact .nil
  | cons n ns ih =>
    intro us r
    rw [List.map_cons] at r
    cases r with
    | cons r1 r2 =>
      obtain ⟨t, e⟩ := r1
      subst e
      exact .cons n t (ih r2)
section
variable {X : Cx} {e : Expr} {te : TE} {lo hi : Option Expr} {tl th : TO} {pos p2 : Pos}
theorem qci : PO X none yga := by
  intro pins s σ H Q I h
  rw [evalPart_none]
  exact wpAny_pure ⟨none, H, I, .none, h⟩
theorem ybt (h : PE X e te) : PO X (some e) (tPart te) := by
  intro pins s σ H Q I hw
  rw [evalPart_some]
  refine thn (h pins s σ H _ I hw) fun u s1 ⟨x, H1, I1, r1, q1⟩ => ?_
  obtain ⟨i, rfl, q⟩ := q1
  obtain ⟨t, rfl⟩ := r1
  exact ⟨some i, H1, I1, .int i t, q⟩
def SlR (X : Cx) (r : V → Option Int → Option Int → Hp → VK → Prop) : Prop :=
  ∀ (pins : List (Addr × Obj)) (s : Shared) (σ : St) (H : Hp) (x : V) (v vl vu : Value) (lo hi : Option Int) (sl : Addr) (Q : VK), Inv X pins σ H s → RelV x v → s.heap.IsSliceOf sl vl vu .none → IsPart vl lo → IsPart vu hi → r x lo hi H Q →
    ∃ T id, typeLookup (.type T) "__getitem__" = pure (some (.builtin id)) ∧ s.TypeIs v T ∧ wpAny (model X.prog X.w) X.A (getItem v (.ref sl)) (EP X pins σ Q) X.xe s
def tSl (r : V → Option Int → Option Int → Hp → VK → Prop) (te : TE) (tl th : TO) : TE := fun σ H Q => te σ H fun x H1 => tl σ H1 fun l H2 => th σ H2 fun u H3 => r x l u H3 Q
theorem qbs {r : V → Option Int → Option Int → Hp → VK → Prop} (hr : SlR X r) (he : PE X e te) (hl : PO X lo tl) (hu : PO X hi th) : PE X (.Subscript e (.Slice lo hi none p2) pos) (tSl r te tl th) := by
  intro pins s σ H Q I h
  refine Subscript_ (thn (he pins s σ H _ I h) fun v s1 ⟨x, H1, I1, r1, q1⟩ => ?_)
  refine wpAny_Slice (thn (hl pins s1 σ H1 _ I1 q1) fun vl s2 ⟨l, H2, I2, pl, q2⟩ => thn (hu pins s2 σ H2 _ I2 q2) fun vu s3 ⟨u, H3, I3, pu, q3⟩ => ?_)
  rw [evalPart_none]
  refine wpAny_pure ?_
  have I4 : Inv X pins σ H3 { s3 with heap := s3.heap.push { cls := .type "slice", data := .fields #[vl, vu, .none] } } := I3.kept (t' := s3.toks) fun b ob q => Heap.get?_push_of_some _ q
  obtain ⟨T, id, hT, ht, hg⟩ := hr pins { s3 with heap := s3.heap.push { cls := .type "slice", data := .fields #[vl, vu, .none] } } σ H3 x v vl vu l u s3.heap.objs.size Q I4 r1 (Heap.IsSliceOf.new ..) pl pu q3
  show wpAny (model X.prog X.w) X.A (subscriptTail e (.Slice lo hi none p2) v (.ref s3.heap.objs.size)) (EP X pins σ Q) X.xe { s3 with heap := s3.heap.push { cls := .type "slice", data := .fields #[vl, vu, .none] } }
  exact tail_any (ops := [.ref s3.heap.objs.size, v]) ht hT hg (by with_unfolding_all rfl)
def cutV (xs : List V) (lo hi : Option Int) : List V := (xs.drop (HT.sIx xs.length 0 lo)).take (HT.sIx xs.length xs.length hi - HT.sIx xs.length 0 lo)
theorem yfh (xs : List V) (lo hi : Option Int) : (cutV xs lo hi).length ≤ xs.length := by
  unfold cutV
  rw [List.length_take, List.length_drop]
  omega
def rSlT (K : PySem.W.Frag) : V → Option Int → Option Int → Hp → VK → Prop := fun x lo hi H Q => ∃ a xs, x = .ref a ∧ SqT K H a xs ∧
  ¬ (HT.sIx xs.length 0 lo = 0 ∧ HT.sIx xs.length xs.length hi = xs.length) ∧ ∀ p, H p = none → Q (.ref p) (upd H p (.tup (cutV xs lo hi)))
theorem yih : SlR X (rSlT X.K) := by
  intro pins s σ H x v vl vu lo hi sl Q I rx hs pl pu h
  obtain ⟨a, xs, rfl, hx, hw, q⟩ := h
  cases rx
  obtain ⟨its, r, ht, hz⟩ := I.tuple hx
  have hlen : its.toArray.size = xs.length := by rw [List.size_toArray]; exact r.length.symm
  refine ⟨"tuple", _, PyProof.Rows.slot_tuple_getitem.lookup, ht.typeIs, ?_⟩
  refine HT.getItem_tuple_cut ht hs pl pu (by rw [hlen]; exact hw) ?_ (by rw [hlen]; exact hz)
  rw [hlen]
  refine ⟨.ref s.heap.objs.size, _, I.laid (t' := s.toks) (o := .tup (cutV xs lo hi)) (fun b ob q => Heap.get?_push_of_some _ q) (Nat.le_refl _) ?_, rfl, q _ (I.hok.fresh (Nat.le_refl _))⟩
  exact ⟨Nat.le_trans (yfh xs lo hi) hz, _, (r.drop (HT.sIx xs.length 0 lo)).take (HT.sIx xs.length xs.length hi - HT.sIx xs.length 0 lo), IsTup.new _ _⟩
end
def ixN (n : Nat) (i : Int) : Option Nat := if 0 ≤ i then (if i < n then some i.toNat else none) else if -(n : Int) ≤ i then some (i + n).toNat else none
def atI {α : Type} (xs : List α) (i : Int) : Option α := (ixN xs.length i).bind fun j => xs[j]?
theorem qja {n : Nat} {i : Int} {j : Nat} (h : ixN n i = some j) : seqIndex? i n = some j ∧ j < n ∧ -(n : Int) ≤ i ∧ i < n := by
  unfold ixN at h
  by_cases h0 : 0 ≤ i
  · rw [if_pos h0] at h
    by_cases h1 : i < n
    · rw [if_pos h1] at h
      have e : i.toNat = j := Option.some.inj h
      exact ⟨by rw [seqIndex_of h0 h1, e], by omega, by omega, h1⟩
    · rw [if_neg h1] at h; cases h
  · rw [if_neg h0] at h
    by_cases h1 : -(n : Int) ≤ i
    · rw [if_pos h1] at h
      have e : (i + n).toNat = j := Option.some.inj h
      exact ⟨by rw [seqIndex_neg (by omega) h1, e], by omega, h1, by omega⟩
    · rw [if_neg h1] at h; cases h
theorem yjp {α : Type} {xs : List α} {i : Int} {v : α} (h : atI xs i = some v) : ∃ j, seqIndex? i xs.length = some j ∧ xs[j]? = some v ∧ j < xs.length ∧ -(xs.length : Int) ≤ i ∧ i < xs.length := by
  unfold atI at h
  cases e : ixN xs.length i with
  | none => rw [e] at h; cases h
  | some j =>
    rw [e] at h
    obtain ⟨h1, h2, h3, h4⟩ := qja e
    exact ⟨j, h1, h, h2, h3, h4⟩
theorem qho {α : Type} {xs : List α} {j : Nat} {v : α} (h : xs[j]? = some v) : atI xs (j : Int) = some v := by
  have hj : j < xs.length := (List.getElem?_eq_some_iff.mp h).1
  have e : ixN xs.length (j : Int) = some j := by
    unfold ixN
    rw [if_pos (by omega), if_pos (by omega)]; simp
  unfold atI; rw [e]; exact h
theorem yib {α : Type} (xs : List α) (v : α) : atI (xs ++ [v]) (-1) = some v := by
  have hl : (xs ++ [v]).length = xs.length + 1 := by simp
  have e : ixN (xs ++ [v]).length (-1) = some xs.length := by
    unfold ixN
    rw [hl, if_neg (by decide), if_pos (by omega)]
    congr 1
    omega
  unfold atI
  rw [e]
  show (xs ++ [v])[xs.length]? = some v
  simp
def yjs (b : Expr) : Prop := ∀ o i, subscripted b false o i = operate [o, i] (getItem o i)
def IxR (X : Cx) (r : R2) : Prop :=
  ∀ (value slice : Expr) (pins : List (Addr × Obj)) (s : Shared) (σ : St) (H : Hp) (x y : V) (v u : Value) (Q : VK), Inv X pins σ H s → RelV x v → RelV y u → r x y H Q →
    subscripted slice false v u = operate [v, u] (getItem v u) → wpAny (model X.prog X.w) X.A (subscriptTail value slice v u) (EP X pins σ Q) X.xe s
def MtR (X : Cx) (id : String) (r : V → List V → Hp → VK → Prop) : Prop :=
  ∀ (pins : List (Addr × Obj)) (s : Shared) (σ : St) (H : Hp) (x : V) (xs : List V) (v : Value) (us : List Value) (Q : VK), Inv X pins σ H s → RelV x v → Vals xs us → r x xs H Q →
    wpAny (model X.prog X.w) X.A (call (.builtin id) (v :: us)) (EP X pins σ Q) X.xe s
section
variable {X : Cx} {a b : Expr} {ta tb : TE} {pos : Pos}
theorem yay {r : R2} (hr : IxR X r) (ha : PE X a ta) (hb : PE X b tb) (hs : yjs b) : PE X (.Subscript a b pos) (tOp r ta tb) := by
  intro pins s σ H Q I h
  exact Subscript_ (binT ha hb I h fun v u s2 x y H2 I2 rx ry q => hr a b pins s2 σ H2 x y v u Q I2 rx ry q (hs _ _))
def rIxL (K : PySem.W.Frag) : R2 := fun x y H Q => ∃ p xs i v, x = .ref p ∧ y = .int i ∧ SqL K H p xs ∧ atI xs i = some v ∧ Q v H
def rIxT (K : PySem.W.Frag) : R2 := fun x y H Q => ∃ p xs i v, x = .ref p ∧ y = .int i ∧ SqT K H p xs ∧ atI xs i = some v ∧ Q v H
theorem qal : IxR X (rIxL X.K) := by
  intro value slice pins s σ H x y v u Q I rx ry h hs
  obtain ⟨p, xs, i, z, rfl, rfl, hq, he, q⟩ := h
  cases rx
  obtain ⟨t, rfl⟩ := ry
  obtain ⟨its, r, pl, hz⟩ := I.list hq
  obtain ⟨j, h1, h2, h3, h4, h5⟩ := yjp he
  obtain ⟨w, ew, rw'⟩ := r.get h2
  have hl := r.length
  have hn := yic
  have fin : EP X pins σ Q w s := ⟨z, H, I, rw', q⟩
  by_cases h0 : 0 ≤ i
  · have hj : i.toNat = j := by
      rw [seqIndex_of h0 h5] at h1
      exact Option.some.inj h1
    exact item_listR pl.isList h0 (by omega) (by rw [hj]; simpa using ew) fin hs
  · have hj : (i + (its.toArray.size : Int)).toNat = j := by
      rw [seqIndex_neg (by omega) h4] at h1
      rw [List.size_toArray, ← hl]
      exact Option.some.inj h1
    exact subscriptTail_builtinR (x := w) pl.isList.typeIs slot_list_getitem.lookup
      (wpAny_getItem_list_neg (Q := fun r s' => r = w ∧ EP X pins σ Q r s') pl.isList (by omega) (by rw [List.size_toArray] <;> omega) (by omega) (by rw [hj]; simpa using ew) ⟨rfl, fin⟩) hs
theorem yav : IxR X (rIxT X.K) := by
  intro value slice pins s σ H x y v u Q I rx ry h hs
  obtain ⟨p, xs, i, z, rfl, rfl, hq, he, q⟩ := h
  cases rx
  obtain ⟨t, rfl⟩ := ry
  obtain ⟨its, r, pl, hz⟩ := I.tuple hq
  obtain ⟨j, h1, h2, h3, h4, h5⟩ := yjp he
  obtain ⟨w, ew, rw'⟩ := r.get h2
  have hl := r.length
  have hn := yic
  have fin : EP X pins σ Q w s := ⟨z, H, I, rw', q⟩
  exact subscriptTail_builtinR (x := w) pl.typeIs slot_tuple_getitem.lookup
    (getItem_tuple (j := j) (Q := fun r s' => r = w ∧ EP X pins σ Q r s') pl (by omega) (by omega) (by rw [List.size_toArray, ← hl]; exact h1) (by simpa using ew) ⟨rfl, fin⟩) hs
theorem qik (its : List Value) (n j : Nat) (u : Value) : Obj.mapSeq (·.setIfInBounds j u) { cls := .type "list", data := .seq its.toArray n } = { cls := .type "list", data := .seq (its.set j u).toArray n } := by
  simp [Obj.mapSeq]
theorem Inv.lst {pins : List (Addr × Obj)} {σ : St} {H : Hp} {s : Shared} {p : Addr} {xs : List V} (I : Inv X pins σ H s) (h : H p = some (.lst xs)) :
    ∃ (its : List Value) (n : Nat), Vals xs its ∧ s.heap.get? p = some { cls := .type "list", data := .seq its.toArray n } ∧ xs.length ≤ sizeLine := by
  obtain ⟨z, its, n, r, e⟩ := I.hok p _ h
  exact ⟨its, n, r, e, z⟩
theorem Inv.lstUpd {pins : List (Addr × Obj)} {σ : St} {H : Hp} {s : Shared} {p : Addr} {xs ys : List V} {its its' : List Value} {n n' : Nat} {f : Obj → Obj} (I : Inv X pins σ H s) (h : H p = some (.lst xs))
    (ho : s.heap.get? p = some { cls := .type "list", data := .seq its.toArray n }) (hf : f { cls := .type "list", data := .seq its.toArray n } = { cls := .type "list", data := .seq its'.toArray n' }) (r : Vals ys its') (hz : ys.length ≤ sizeLine) (t : Nat) :
    Inv X pins σ (upd H p (.lst ys)) { s with heap := s.heap.update p f, toks := t } := by
  have e : (s.heap.update p f).get? p = some { cls := .type "list", data := .seq its'.toArray n' } := by
    rw [Heap.get?_update_self f ho (by rw [hf] <;> rfl), hf]
  refine I.write (x := p) (e := p) (by rw [h]; trivial) (.inl rfl) (fun b u hb q => (Heap.get?_update_other _ _ (Ne.symm hb)).trans q) ⟨_, e⟩ ?_
  exact ⟨hz, its', n', r, e⟩
def rSetL : V → V → V → Hp → (Hp → Prop) → Prop := fun o i v H Q => ∃ p xs k j, o = .ref p ∧ i = .int k ∧ H p = some (.lst xs) ∧ ixN xs.length k = some j ∧ Q (upd H p (.lst (xs.set j v)))
theorem qdf : PSet X rSetL := by
  intro pins s σ H o i v ov iv u Q I ro ri rv h
  obtain ⟨p, xs, k, j, rfl, rfl, hp, hj, q⟩ := h
  cases ro
  obtain ⟨t, rfl⟩ := ri
  obtain ⟨its, n, r, ho, hz⟩ := I.lst hp
  obtain ⟨h1, h2, h3, h4⟩ := qja hj
  have hl := r.length
  have hn := yic
  have I' : Inv X pins σ (upd H p (.lst (xs.set j v))) { s with heap := s.heap.update p (Obj.mapSeq (·.setIfInBounds j u)) } :=
    I.lstUpd hp ho (qik its n j u) (r.set rv j) (by rw [List.length_set]; exact hz) s.toks
  by_cases h0 : 0 ≤ k
  · have hk : k.toNat = j := by
      rw [seqIndex_of h0 h4] at h1
      exact Option.some.inj h1
    exact PySem.W.ki_setAt ho h0 (by omega) (by rw [List.size_toArray, ← hl]; exact h4) (by rw [hk]; exact ⟨_, I', q⟩)
  · have hk : (k + (its.toArray.size : Int)).toNat = j := by
      rw [seqIndex_neg (by omega) h3] at h1
      rw [List.size_toArray, ← hl]
      exact Option.some.inj h1
    exact PySem.W.ki_setBack ho (by omega) (by rw [List.size_toArray, ← hl]; exact h3) (by omega) (by rw [hk]; exact ⟨_, I', q⟩)
theorem yha (lo hi : Option Int) (n : Nat) : (sliceBounds lo hi none n).1 = ((HT.sIx n 0 lo : Nat) : Int) ∧ (sliceBounds lo hi none n).2.1 = ((HT.sIx n n hi : Nat) : Int) ∧ (sliceBounds lo hi none n).2.2 = 1 := by
  refine ⟨?_, ?_, rfl⟩
  · cases lo with
    | none => simp [sliceBounds, HT.sIx]
    | some i =>
      simp only [sliceBounds, HT.sIx, Option.getD_none, show (1 : Int) > 0 by decide, if_true]
      by_cases h : i < 0
      · simp only [h, if_true] <;> omega
      · simp only [h, if_false] <;> omega
  · cases hi with
    | none => simp [sliceBounds, HT.sIx]
    | some i =>
      simp only [sliceBounds, HT.sIx, Option.getD_none, show (1 : Int) > 0 by decide, if_true]
      by_cases h : i < 0
      · simp only [h, if_true] <;> omega
      · simp only [h, if_false] <;> omega
theorem qgj (its : List Value) (lo hi : Option Int) : slicePick its.toArray lo hi none = ((its.drop (HT.sIx its.length 0 lo)).take (HT.sIx its.length its.length hi - HT.sIx its.length 0 lo)).toArray := by
  obtain ⟨h1, h2, h3⟩ := yha lo hi its.toArray.size
  unfold slicePick
  rw [h1, h2, h3]
  simp only [sliceRange_one, pick_run, List.size_toArray] <;> rfl
def rSlL (K : PySem.W.Frag) : V → Option Int → Option Int → Hp → VK → Prop := fun x lo hi H Q => ∃ a xs, x = .ref a ∧ SqL K H a xs ∧ ∀ p, H p = none → Q (.ref p) (upd H p (.lst (cutV xs lo hi)))
theorem yd7 : SlR X (rSlL X.K) := by
  intro pins s σ H x v vl vu lo hi sl Q I rx hs pl pu h
  obtain ⟨a, xs, rfl, hx, q⟩ := h
  cases rx
  obtain ⟨its, r, ht, hz⟩ := I.list hx
  have hlen := r.length
  refine ⟨"list", _, slot_list_getitem.lookup, ht.isList.typeIs, ?_⟩
  refine wpAny_getItem_list_slice ht.isList hs pl pu .none (by simp) ?_ (by rw [List.size_toArray] <;> omega)
  rw [qgj, ← hlen]
  refine ⟨.ref s.heap.objs.size, _, I.laid (t' := s.toks) (o := .lst (cutV xs lo hi)) (fun b ob q => Heap.get?_push_of_some _ q) (Nat.le_refl _) ?_, rfl, q _ (I.hok.fresh (Nat.le_refl _))⟩
  exact ⟨Nat.le_trans (yfh xs lo hi) hz, _, 0, (r.drop (HT.sIx xs.length 0 lo)).take (HT.sIx xs.length xs.length hi - HT.sIx xs.length 0 lo), Heap.get?_push_size _ rfl⟩
def yc9 : V → Bool
  | .non => true
  | .bl _ => true
  | .int _ => true
  | .str _ => true
  | _ => false
def eqV : V → V → Bool
  | .non, .non => true
  | .bl a, .bl b => a == b
  | .bl a, .int b => (if a then 1 else 0) == b
  | .int a, .bl b => a == (if b then 1 else 0)
  | .int a, .int b => a == b
  | .str a, .str b => a == b
  | _, _ => false
theorem eqAt_V {A : Around} {s : Shared} {y x : V} {u v : Value} (ry : RelV y u) (rx : RelV x v) (fy : yc9 y = true) (fx : yc9 x = true) : SeqAt.EqAt A s u v (eqV y x) := by
  cases y with
  | non =>
    cases ry
    cases x with
    | non => cases rx; exact SeqAt.EqAt.same _
    | bl b => cases rx; exact SeqAt.EqAt.none_bool b
    | int b => obtain ⟨t, rfl⟩ := rx; exact SeqAt.EqAt.none_int b t
    | str b => obtain ⟨t, rfl⟩ := rx; exact SeqAt.EqAt.none_str b t
    | _ => exact absurd (show false = true from fx) Bool.false_ne_true
  | bl a =>
    cases ry
    cases x with
    | non => cases rx; exact SeqAt.EqAt.bool_none a
    | bl b => cases rx; exact SeqAt.EqAt.bool_bool a b
    | int b => obtain ⟨t, rfl⟩ := rx; exact SeqAt.EqAt.bool_int a b t
    | str b => obtain ⟨t, rfl⟩ := rx; exact SeqAt.EqAt.bool_str a b t
    | _ => exact absurd (show false = true from fx) Bool.false_ne_true
  | int a =>
    obtain ⟨t', rfl⟩ := ry
    cases x with
    | non => cases rx; exact SeqAt.EqAt.int_none a t'
    | bl b => cases rx; exact SeqAt.EqAt.int_bool a t' b
    | int b => obtain ⟨t, rfl⟩ := rx; exact SeqAt.EqAt.int_int a t' b t
    | str b => obtain ⟨t, rfl⟩ := rx; exact SeqAt.EqAt.int_str a t' b t
    | _ => exact absurd (show false = true from fx) Bool.false_ne_true
  | str a =>
    obtain ⟨t', rfl⟩ := ry
    cases x with
    | non => cases rx; exact SeqAt.EqAt.str_none a t'
    | bl b => cases rx; exact SeqAt.EqAt.str_bool a t' b
    | int b => obtain ⟨t, rfl⟩ := rx; exact SeqAt.EqAt.str_int a t' b t
    | str b => obtain ⟨t, rfl⟩ := rx; exact SeqAt.EqAt.str_str a t' b t
    | _ => exact absurd (show false = true from fx) Bool.false_ne_true
  | _ => exact absurd (show false = true from fy) Bool.false_ne_true
def eqU (x : V) (u : Value) : Bool := match u with
  | .none => eqV .non x
  | .bool b => eqV (.bl b) x
  | .int i _ => eqV (.int i) x
  | .str z _ => eqV (.str z) x
  | _ => false
theorem eqU_of {x y : V} {u : Value} (r : RelV y u) (f : yc9 y = true) : eqU x u = eqV y x := by
  cases y with
  | non => cases r; rfl
  | bl b => cases r; rfl
  | int i => obtain ⟨t, rfl⟩ := r; rfl
  | str z => obtain ⟨t, rfl⟩ := r; rfl
  | _ => exact absurd (show false = true from f) Bool.false_ne_true
theorem qey {x : V} : ∀ {xs : List V} {us : List Value}, Vals xs us → xs.all yc9 = true → us.any (eqU x) = xs.any fun y => eqV y x
  | _, _, .nil, _ => rfl
  | y :: xs, u :: us, .cons r t, f => by
    rw [List.all_cons, Bool.and_eq_true] at f
    rw [List.any_cons, List.any_cons, eqU_of r f.1, qey t f.2]
theorem ydt {A : Around} {s : Shared} {x : V} {v : Value} (rx : RelV x v) (fx : yc9 x = true) : ∀ {xs : List V} {us : List Value}, Vals xs us → xs.all yc9 = true → ∀ u ∈ us, SeqAt.EqAt A s u v (eqU x u)
  | _, _, .nil, _ => fun u hu => by cases hu
  | y :: xs, u :: us, .cons r t, f => fun u' hu => by
    rw [List.all_cons, Bool.and_eq_true] at f
    rcases List.mem_cons.mp hu with rfl | hu
    · rw [eqU_of r f.1]; exact eqAt_V r rx f.1 fx
    · exact ydt rx fx t f.2 u' hu
def inV (x : V) (xs : List V) : Bool := xs.any fun y => eqV y x
def rIn (K : PySem.W.Frag) (neg : Bool) : R2 := fun x y H Q => ∃ p xs, y = .ref p ∧ (SqL K H p xs ∨ SqT K H p xs) ∧ yc9 x = true ∧ xs.all yc9 = true ∧ Q (.bl (if neg then !inV x xs else inV x xs)) H
theorem qb2 : OpR X (compareOp .In) (rIn X.K false) := by
  intro pins s σ H x y v u Q I rx ry h
  obtain ⟨p, xs, rfl, hq, fx, fs, q⟩ := h
  cases ry
  rcases hq with hq | hq
  · obtain ⟨its, r, pl, hz⟩ := I.list hq
    refine SeqAt.in_listAt (eqU x) pl.isList (fun w hw => ydt rx fx r fs w (by simpa using hw)) ⟨.bl _, H, I, rfl, ?_⟩
    rw [show its.toArray.any (eqU x) = its.any (eqU x) by simp, qey r fs]
    exact q
  · obtain ⟨its, r, pl, hz⟩ := I.tuple hq
    refine SeqAt.in_tupleAt (eqU x) pl (fun w hw => ydt rx fx r fs w (by simpa using hw)) ⟨.bl _, H, I, rfl, ?_⟩
    rw [show its.toArray.any (eqU x) = its.any (eqU x) by simp, qey r fs]
    exact q
theorem ygx : OpR X (compareOp .NotIn) (rIn X.K true) := by
  intro pins s σ H x y v u Q I rx ry h
  obtain ⟨p, xs, rfl, hq, fx, fs, q⟩ := h
  cases ry
  rcases hq with hq | hq
  · obtain ⟨its, r, pl, hz⟩ := I.list hq
    refine SeqAt.notIn_listAt (eqU x) pl.isList (fun w hw => ydt rx fx r fs w (by simpa using hw)) ⟨.bl _, H, I, rfl, ?_⟩
    rw [show its.toArray.any (eqU x) = its.any (eqU x) by simp, qey r fs]
    exact q
  · obtain ⟨its, r, pl, hz⟩ := I.tuple hq
    refine SeqAt.notIn_tupleAt (eqU x) pl (fun w hw => ydt rx fx r fs w (by simpa using hw)) ⟨.bl _, H, I, rfl, ?_⟩
    rw [show its.toArray.any (eqU x) = its.any (eqU x) by simp, qey r fs]
    exact q
theorem qaj : ycz X (.builtin "len") (fun xs H Q => ∃ p ys, xs = [.ref p] ∧ (SqL X.K H p ys ∨ SqT X.K H p ys) ∧ Q (.int ys.length) H) := by
  intro pins s σ H xs us Q I r h
  obtain ⟨p, ys, rfl, hq, q⟩ := h
  obtain ⟨u, rfl, rx⟩ := qir r
  cases rx
  have hn := yic
  rcases hq with hq | hq
  · obtain ⟨its, r', pl, hz⟩ := I.list hq
    have hlen := r'.length
    exact Calls.call_len_list pl.isList (by simp only [List.size_toArray] <;> omega) ⟨.int ys.length, H, I.tok _, ⟨s.toks + 1, by rw [List.size_toArray, hlen]⟩, q⟩
  · obtain ⟨its, r', pl, hz⟩ := I.tuple hq
    have hlen := r'.length
    exact len_tuple pl (by simp only [List.size_toArray] <;> omega) ⟨.int ys.length, H, I.tok _, ⟨s.toks + 1, by rw [List.size_toArray, hlen]⟩, q⟩
theorem yb3 : ycz X (.type "list") (fun xs H Q => ∃ p ys, xs = [.ref p] ∧ (SqL X.K H p ys ∨ SqT X.K H p ys) ∧ ∀ l, H l = none → Q (.ref l) (upd H l (.lst ys))) := by
  intro pins s σ H xs us Q I r h
  obtain ⟨p, ys, rfl, hq, q⟩ := h
  obtain ⟨u, rfl, rx⟩ := qir r
  cases rx
  have fin : ∀ (its : List Value), Vals ys its → ys.length ≤ sizeLine → ∀ (h' : Heap) (c' : Nat), (∀ b o', s.heap.get? b = some o' → h'.get? b = some o') →
      h'.get? s.heap.objs.size = some { cls := .type "list", dict := none, data := .seq its.toArray c', slots := #[] } → EP X pins σ Q (.ref s.heap.objs.size) { s with heap := h' } := fun its r' hz h' c' kp e =>
    ⟨.ref s.heap.objs.size, _, I.laid (t' := s.toks) kp (Nat.le_refl _) (show qbj X.prog X.w _ h' _ (.lst ys) from ⟨hz, its, c', r', e⟩), rfl, q _ (I.hok.fresh (Nat.le_refl _))⟩
  rcases hq with hq | hq
  · obtain ⟨its, r', pl, hz⟩ := I.list hq
    have hlen := r'.length
    obtain ⟨o, ho, hc, n, hd⟩ := pl.isList
    exact call_list_seq p (.inl rfl) ho hc hd (fun h' c' kp e => fin its r' hz h' c' kp e) (by simp only [List.size_toArray] <;> omega)
  · obtain ⟨its, r', pl, hz⟩ := I.tuple hq
    have hlen := r'.length
    obtain ⟨o, ho, hc, n, hd⟩ := pl
    exact call_list_seq p (.inr rfl) ho hc hd (fun h' c' kp e => fin its r' hz h' c' kp e) (by simp only [List.size_toArray] <;> omega)
theorem yd4 : ycz X (.type "tuple") (fun xs H Q => ∃ p ys, xs = [.ref p] ∧ ((SqL X.K H p ys ∧ ∀ l, H l = none → Q (.ref l) (upd H l (.tup ys))) ∨ (SqT X.K H p ys ∧ Q (.ref p) H))) := by
  intro pins s σ H xs us Q I r h
  obtain ⟨p, ys, rfl, h⟩ := h
  obtain ⟨u, rfl, rx⟩ := qir r
  cases rx
  rcases h with ⟨hq, q⟩ | ⟨hq, q⟩
  · obtain ⟨its, r', pl, hz⟩ := I.list hq
    have hlen := r'.length
    refine call_tuple_list pl.isList (fun h' kp => ?_) (by simp only [List.size_toArray] <;> omega)
    have I1 : Inv X pins σ H { s with heap := h' } := I.kept (t' := s.toks) kp
    have I2 : Inv X pins σ (upd H h'.objs.size (.tup ys)) { s with heap := h'.push { cls := .type "tuple", data := .seq its.toArray } } :=
      I1.laid (t' := s.toks) (fun b o e => Heap.get?_push_of_some _ e) (Nat.le_refl _) (show qbj X.prog X.w _ _ _ (.tup ys) from ⟨hz, its, r', IsTup.new _ _⟩)
    exact ⟨.ref h'.objs.size, _, I2, rfl, q _ (I1.hok.fresh (Nat.le_refl _))⟩
  · obtain ⟨its, r', pl, hz⟩ := I.tuple hq
    exact call_tuple_same pl ⟨.ref p, H, I, rfl, q⟩
def tyV (K : PySem.W.Frag) (T : String) (x : V) (H : Hp) : Prop := match x with
  | .str _ => T = "str"
  | .int _ => T = "int"
  | .ref p => (T = "list" ∧ ∃ xs, SqL K H p xs) ∨ (T = "tuple" ∧ ∃ o, K.lookup p = some o ∧ o.cls = .type "tuple" ∧ o.dict = none) ∨
      (T = "dict" ∧ ((∃ kvs, H p = some (.dK kvs)) ∨ ∃ kvs, H p = some (.dT kvs))) ∨ (T = "set" ∧ ∃ S n, H p = some (.set S n))
  | _ => False
theorem tyV_is {pins : List (Addr × Obj)} {σ : St} {H : Hp} {s : Shared} {T : String} {x : V} {v : Value} (I : Inv X pins σ H s) (r : RelV x v) (ty : tyV X.K T x H) :
    s.TypeIs v T ∧ ∀ a, v = .ref a → ∃ ob, s.heap.get? a = some ob ∧ ob.dict = none := by
  cases x with
  | str z =>
    obtain ⟨t, rfl⟩ := r
    cases (show T = "str" from ty)
    exact ⟨typeIs_str s z t, fun _ e => nomatch e⟩
  | int i =>
    obtain ⟨t, rfl⟩ := r
    cases (show T = "int" from ty)
    exact ⟨typeIs_int s i t, fun _ e => nomatch e⟩
  | ref p =>
    cases r
    rcases ty with ⟨rfl, xs, hq⟩ | ⟨rfl, o, hk, hc, hd⟩ | ⟨rfl, hk⟩ | ⟨rfl, S, n, hk⟩
    · obtain ⟨its, _, pl, _⟩ := I.list hq
      refine ⟨pl.isList.typeIs, fun a e => ?_⟩
      cases e
      obtain ⟨o, n, e, c, hd, _⟩ := pl
      exact ⟨o, e, hd⟩
    · refine ⟨⟨o, I.kIn p o hk, hc⟩, fun a e => ?_⟩
      cases e
      exact ⟨o, I.kIn _ o hk, hd⟩
    · have z : ∃ o, s.heap.get? p = some o ∧ o.ExactDict := by
        rcases hk with ⟨kvs, hk⟩ | ⟨kvs, hk⟩
        · obtain ⟨_, _, _, _, o, _, _, e, ex, _⟩ := I.hok p _ hk
          exact ⟨o, e, ex⟩
        · obtain ⟨_, _, _, _, o, _, _, e, ex, _⟩ := I.hok p _ hk
          exact ⟨o, e, ex⟩
      obtain ⟨o, e, ex⟩ := z
      refine ⟨⟨o, e, ex.1⟩, fun a e2 => ?_⟩
      cases e2
      exact ⟨o, e, ex.2.1⟩
    · obtain ⟨o, _, _, _, e, ex, _⟩ := I.hok p _ hk
      refine ⟨⟨o, e, ex.1⟩, fun a e2 => ?_⟩
      cases e2
      exact ⟨o, e, ex.2.1⟩
  | _ => exact False.elim ty
def tBM (K : PySem.W.Frag) (T : String) (r : V → List V → Hp → VK → Prop) (to : TE) (t : TA) : TE := fun σ H Q => to σ H fun x H1 => tyV K T x H1 ∧ t σ H1 fun xs H2 => r x xs H2 Q
variable {o e : Expr} {es : List Expr} {to : TE} {t : TA} {name : Str} {apos cpos : Pos} {T id : String} {r : V → List V → Hp → VK → Prop}
theorem yg6 (pa : PlainAttrs T) (slot : Slot T name id) (hty : typeOf (.builtin id) = pure (.type "method_descriptor")) (hm : MtR X id r) (ho : PE X o to) (ha : PA X (e :: es) t)
    (hbase : attributeBase o name X.env (eval o X.env) = eval o X.env := by rfl)
    (hfew : ((backTo cpos (starEach (e :: es) X.env)).all (fun x => !x.1) && (backToKw cpos (keywordEach [] X.env)).all (fun x => x.1.isSome)
      && decide ((e :: es).length + ([] : List Keyword).length + (if ([] : List Keyword).isEmpty then 0 else 1) < 30)) = true := by rfl)
    (hline : (apos.endLine == cpos.line) = true := by rfl) (hs : starEach (e :: es) X.env = (false, eval e X.env) :: starEach es X.env := by rfl) (hplain : (backTo cpos (starEach es X.env)).any (·.1) = false := by rfl) :
    PE X (.Call (.Attribute o name apos) (e :: es) [] cpos) (tBM X.K T r to t) := by
  intro pins s σ H Q I h
  refine wpAny_Call_method_late hbase hfew hline rfl (thn (ho pins s σ H _ I h) fun v s1 ⟨x, H1, I1, r1, ty, q1⟩ => ?_)
  obtain ⟨h1, h2⟩ := tyV_is I1 r1 ty
  refine ⟨T, id, pa, slot, hty, h1, h2, ?_⟩
  have hA := ha cpos pins s1 σ H1 _ I1 q1
  rw [hs] at hA ⊢
  refine Calls.callWith_builtin (by show (false || (backTo cpos (starEach es X.env)).any (·.1)) = false; rw [hplain] <;> rfl) (Calls.evalArgs_plain ?_)
  exact thn hA fun us s2 ⟨vs, H2, I2, r2, q2⟩ => hm pins s2 σ H2 x vs v us Q I2 r1 r2 q2
/- xs.append(e), list.index on a module's tuple .. are MtR facts of 06m -/
end
def MtM (X : Cx) (id : String) (r : V → List V → Hp → VK → Prop) : Prop :=
  ∀ (pins : List (Addr × Obj)) (s : Shared) (σ : St) (H : Hp) (x : V) (xs : List V) (v : Value) (us : List Value) (Q : VK), Inv X pins σ H s → RelV x v → Vals xs us → r x xs H Q →
    wpAny (model X.prog X.w) X.A (call (.builtin id) (v :: us)) (EP X pins σ Q) X.xe s
theorem Vals.one : ∀ {x : V} {us : List Value}, Vals [x] us → ∃ u, us = [u] ∧ RelV x u
  | _, _, .cons r .nil => ⟨_, rfl, r⟩
theorem Vals.rep {xs : List V} {us : List Value} (h : Vals xs us) : ∀ k : Nat, Vals (List.replicate k xs).flatten (List.replicate k us).flatten
  | 0 => .nil
  | k + 1 => by
    rw [List.replicate_succ, List.replicate_succ, List.flatten_cons, List.flatten_cons]
    exact Vals.append h (Vals.rep h k)
theorem ygp (its : List Value) : ∀ (k : Nat) (acc : List Value),
    List.foldl (fun x1 x2 => x1 ++ x2) acc.toArray (List.replicate k its.toArray) = (acc ++ (List.replicate k its).flatten).toArray
  | 0, acc => by simp
  | k + 1, acc => by
    have e : acc.toArray ++ its.toArray = (acc ++ its).toArray := by simp
    have e2 : (acc ++ its) ++ (List.replicate k its).flatten = acc ++ (List.replicate (k + 1) its).flatten := by
      rw [List.replicate_succ, List.flatten_cons, List.append_assoc]
    rw [← e2, ← ygp its k (acc ++ its), ← e, List.replicate_succ, List.foldl_cons]
section
variable {X : Cx} {pins : List (Addr × Obj)} {σ : St} {H : Hp} {s : Shared} {l b : Addr} {xs ys zs : List V}
theorem Inv.lset {its its' : List Value} {n : Nat} {f : Array Value → Array Value} {t' : Nat} (I : Inv X pins σ H s) (hH : H l = some (.lst xs))
    (e : s.heap.get? l = some { cls := .type "list", data := .seq its.toArray n }) (hf : f its.toArray = its'.toArray) (hv : Vals ys its') (hz : ys.length ≤ sizeLine) :
    Inv X pins σ (upd H l (.lst ys)) { s with heap := s.heap.update l (Obj.mapSeq f), toks := t' } := by
  have q := PySem.IsL.update e f
  rw [hf] at q
  refine I.write (x := l) (e := l) (by rw [hH]; exact trivial) (.inl rfl) (fun b' u hb hu => (Heap.get?_update_other s.heap (Obj.mapSeq f) (Ne.symm hb)).trans hu) ⟨_, q⟩ ?_
  exact ⟨hz, its', _, hv, q⟩
theorem Inv.lnew {its : List Value} {t' : Nat} (I : Inv X pins σ H s) (hv : Vals ys its) (hz : ys.length ≤ sizeLine) :
    Inv X pins σ (upd H s.heap.objs.size (.lst ys)) { s with heap := s.heap.push { cls := .type "list", data := .seq its.toArray }, toks := t' } :=
  I.laid (fun _ _ q => Heap.get?_push_of_some _ q) (Nat.le_refl _) ⟨hz, its, 0, hv, Heap.get?_push_size _ rfl⟩
theorem Inv.fresh (I : Inv X pins σ H s) : H s.heap.objs.size = none := I.hok.fresh (Nat.le_refl _)
theorem Inv.lstM (I : Inv X pins σ H s) (hH : H l = some (.lst xs)) : xs.length ≤ sizeLine ∧ ∃ (its : List Value) (n : Nat), Vals xs its ∧ xs.length = its.length ∧ s.heap.get? l = some { cls := .type "list", data := .seq its.toArray n } := by
  obtain ⟨z, its, n, r, e⟩ := I.hok l _ hH
  exact ⟨z, its, n, r, r.length, e⟩
theorem yh3 {n : Nat} (h : n ≤ sizeLine) : Builtin.List.listTooLong n = false := by
  unfold Builtin.List.listTooLong
  exact decide_eq_false (by omega)
end
section
variable {X : Cx}
def rAppend : V → List V → Hp → VK → Prop := fun x vs H Q => ∃ l xs y, x = .ref l ∧ vs = [y] ∧ H l = some (.lst xs) ∧ xs.length < sizeLine ∧ Q .non (upd H l (.lst (xs ++ [y])))
theorem yfj : MtM X "list.append" rAppend := by
  intro pins s σ H x vs v us Q I rx rv h
  obtain ⟨l, xs, y, rfl, rfl, hH, hz, q⟩ := h
  cases rx
  obtain ⟨u, rfl, ru⟩ := rv.one
  obtain ⟨z, its, n, r, hl, e⟩ := I.lstM hH
  refine call_meets F.slot_list_append ⟨_, e, rfl⟩ F.entry_list_append (F.args_list_append_2 _ _) (PySem.list_append l its.toArray n u (by rw [List.size_toArray]; omega)) ⟨e, ?_⟩
  refine ⟨.non, _, I.lset (its' := its ++ [u]) hH e (by simp) (r.append (.cons ru .nil)) ?_, rfl, q⟩
  rw [List.length_append, List.length_singleton]
  omega
def rExtend : V → List V → Hp → VK → Prop := fun x vs H Q => ∃ l b xs zs, x = .ref l ∧ vs = [.ref b] ∧ H l = some (.lst xs) ∧ H b = some (.lst zs) ∧ xs.length + zs.length ≤ sizeLine ∧ Q .non (upd H l (.lst (xs ++ zs)))
theorem ydx : MtM X "list.extend" rExtend := by
  intro pins s σ H x vs v us Q I rx rv h
  obtain ⟨l, b, xs, zs, rfl, rfl, hH, hB, hz, q⟩ := h
  cases rx
  obtain ⟨u, rfl, ru⟩ := rv.one
  cases ru
  obtain ⟨z, its, n, r, hl, e⟩ := I.lstM hH
  obtain ⟨z2, its2, n2, r2, hl2, e2⟩ := I.lstM hB
  have hsz : its.toArray.size + its2.toArray.size ≤ sizeLine := by rw [List.size_toArray, List.size_toArray]; omega
  have hlong : ¬ (!its.toArray.isEmpty && Builtin.List.listTooLong (its.toArray.size + its2.toArray.size)) = true := by
    rw [yh3 hsz, Bool.and_false]
    exact Bool.false_ne_true
  refine call_meets F.slot_list_extend ⟨_, e, rfl⟩ F.entry_list_extend (F.args_list_extend_2 _ _)
    (AutoSeq1.list_extend_list_list_0 l its.toArray n b its2.toArray n2 hlong (by rw [List.size_toArray]; omega) (by omega)) ⟨e, e2, ?_⟩
  refine ⟨.non, _, I.lset (its' := its ++ its2) hH e (by simp) (r.append r2) ?_, rfl, q⟩
  rw [List.length_append]
  omega
def rCat : R2 := fun x y H Q => ∃ l b xs zs, x = .ref l ∧ y = .ref b ∧ H l = some (.lst xs) ∧ H b = some (.lst zs) ∧ xs.length + zs.length ≤ sizeLine ∧ ∀ p, H p = none → Q (.ref p) (upd H p (.lst (xs ++ zs)))
theorem ycc : OpR X (binaryOp .Add) rCat := by
  intro pins s σ H x y v u Q I rx ry h
  obtain ⟨l, b, xs, zs, rfl, rfl, hH, hB, hz, q⟩ := h
  cases rx
  cases ry
  obtain ⟨z, its, n, r, hl, e⟩ := I.lstM hH
  obtain ⟨z2, its2, n2, r2, hl2, e2⟩ := I.lstM hB
  refine PySem.P.add_list e e2 ?_ (by rw [List.size_toArray, List.size_toArray]; omega)
  have ea : its.toArray ++ its2.toArray = (its ++ its2).toArray := by simp
  rw [ea]
  exact ⟨.ref _, _, I.lnew (t' := s.toks) (r.append r2) (by rw [List.length_append]; omega), rfl, q _ I.fresh⟩
def rRep : R2 := fun x y H Q => ∃ l k xs, x = .ref l ∧ y = .int k ∧ H l = some (.lst xs) ∧ -(2 ^ 63) ≤ k ∧ k < 2 ^ 63 ∧ xs.length * k.toNat ≤ sizeLine ∧
  ∀ p, H p = none → Q (.ref p) (upd H p (.lst (List.replicate k.toNat xs).flatten))
theorem len_rep {α : Type} (xs : List α) (k : Nat) : (List.replicate k xs).flatten.length = k * xs.length := by
  induction k with
  | zero => simp
  | succ k ih => rw [List.replicate_succ, List.flatten_cons, List.length_append, ih, Nat.succ_mul, Nat.add_comm]
theorem yjk : OpR X (binaryOp .Mult) rRep := by
  intro pins s σ H x y v u Q I rx ry h
  obtain ⟨l, k, xs, rfl, rfl, hH, h1, h2, hz, q⟩ := h
  cases rx
  obtain ⟨t, rfl⟩ := ry
  obtain ⟨z, its, n, r, hl, e⟩ := I.lstM hH
  have hlen : its.toArray.size * k.toNat ≤ sizeLine := by rw [List.size_toArray, ← hl]; exact hz
  have hcap : ¬ its.toArray.size * k.toNat > (2 ^ 63 - 1) / 8 := by
    have : (sizeLine : Nat) ≤ (2 ^ 63 - 1) / 8 := by decide
    omega
  have hfit : ¬ (!Builtin.List.listFitsIndex k) = true := by
    rw [fitsIndex_both h1 h2]
    exact Bool.false_ne_true
  have hlong : ¬ Builtin.List.listTooLong (its.toArray.size * k.toNat) = true := by
    rw [yh3 hlen]
    exact Bool.false_ne_true
  have hnew : List.foldl (fun x1 x2 => x1 ++ x2) #[] (List.replicate (if its.toArray.isEmpty = true then 0 else k.toNat) its.toArray) = (List.replicate k.toNat its).flatten.toArray := by
    have f0 : ∀ m : Nat, List.foldl (fun x1 x2 => x1 ++ x2) #[] (List.replicate m its.toArray) = (List.replicate m its).flatten.toArray := fun m => by
      have := ygp its m []
      rw [List.nil_append] at this
      exact this
    rw [f0]
    cases its with
    | nil => simp
    | cons a r' => rw [if_neg (by simp)]
  refine wpAny_binaryOp_repeat_ref (T := "list") (U := "int") (by decide) ⟨_, e, rfl⟩ (fun s' => typeIs_int s' k t) noFill_list_mul F.fills_int_mul F.slot_int_rmul repeat_list F.slot_int_index.lookup
    (call_meets F.slot_int_rmul (typeIs_int s k t) F.entry_int_rmul (F.args_int_rmul_2 _ _) (int___rmul___int_list k t l its.toArray n)
      ⟨e, rfl, ⟨_, e, rfl⟩, call_meets F.slot_list_mul ⟨_, e, rfl⟩ F.entry_list_mul (F.args_list_mul_2 _ _) (AutoListH.list___mul___list_int_3 l its.toArray n k t hfit hcap hlong) ⟨e, ?_⟩⟩)
  rw [hnew]
  exact ⟨.ref _, _, I.lnew (t' := s.toks) (r.rep k.toNat) (by rw [len_rep, Nat.mul_comm]; exact hz), rfl, q _ I.fresh⟩
end
section
variable {prog : Program} {w : World} {A : Around} {E : Value → Shared → Prop} {s : Shared}
end
section
variable {X : Cx}
end
end L2
namespace Att
open PySem PySem.W PySem.Calls PyProof.Rows
theorem qfe {P : Params} {h : Heap} : ∀ (ns : List Int) (vs : List Value), WellAll P h vs (ns.map WData.int) → IntsAre vs ns := by
  intro ns
  induction ns with
  | nil =>
    intro vs w
    rw [List.map_nil] at w
    cases w
    exact .nil
  | cons n ns ih =>
    intro vs w
    rw [List.map_cons] at w
    cases w with
    | cons a b =>
      cases a
      exact .cons _ _ (ih _ b)
theorem qjp {l : OpenLaw} {n : Nat} (hn : l.most = some n) {P : Params} {h : Heap} {args : List WData} {vals : List Value}
    (hpre : l.row.toRowW.claim.pre args = true) (hwl : WellAll P h vals args) :
    ∃ a vs ns, vals = [Value.ref a] ∧ args = [WData.list (ns.map WData.int)] ∧ h.get? a = some { cls := .type "list", data := .seq vs.toArray } ∧ IntsAre vs ns ∧ ns.length ≤ n := by
  have hsh : WShape.hasAll [] args [.list .int] = true := (pre_splitW hpre).1
  have hc : l.pre.holds [] { args := args } = true := (pre_splitW hpre).2
  obtain ⟨d, r, rfl, h1, h2⟩ := hasAllW_cons hsh
  obtain rfl := hasAllW_nil h2
  obtain ⟨xs, rfl, h3⟩ := hasW_list h1
  obtain ⟨ns, rfl⟩ := items_int h3
  have hlen : ns.length ≤ n := by
    unfold OpenLaw.pre at hc
    have h4 : (WTm.not (.lt (.lit (.int (n : Int))) (.len (.arg 0)))).holds [] { args := [.list (ns.map .int)] } = true := by
      have h4 := (holds_andW hc).1
      rw [hn] at h4
      exact h4
    have h5 := condW_of h4 (w_not (w_lt w_lit (w_len_list (w_arg rfl))))
    rw [List.length_map] at h5
    refine Nat.le_of_not_lt fun q => ?_
    have q' : (n : Int) < ((ns.length : Nat) : Int) := by omega
    first
      | (rw [decide_eq_true q'] at h5; exact absurd h5 (by decide))
      | (simp at h5; omega)
  cases hwl with
  | cons w1 w2 =>
    cases w2
    cases w1 with
    | list ho hall => exact ⟨_, _, ns, rfl, rfl, ho, qfe ns _ hall, hlen⟩
theorem yj4 (l : OpenLaw) (args : List WData) : l.row.toRowW.claim.post args (.bool true) args = true :=
  postW_of (r := l.row.toRowW) (X := (true == true))
    (show WShape.has [] (.bool true) .bool = true by first | rfl | decide | simp [WShape.has, WShape.arms, WShape.armsAll])
    (show (WTm.eq .res (.lit (.bool true))).value [] { args := args, res := some (.bool true), after := args } = some (.bool (true == true)) from w_eq_bool (w_res rfl) w_lit) rfl
theorem attach_call {l : OpenLaw} {n : Nat} {q : Program} {loose : List Str} {XP : (Str → Option Value) → Heap → Prop} {YP : World → Heap → Prop} {d : DefRec}
    (hn : l.most = some n) (hdf : d.params.defaults = [])
    (call : ∀ (w : World) (s₀ s₁ : Shared) (mg mb : Str → Option Value) (fa : Addr) (o : Obj) (pm cd doc : Value) (a : Addr) (vs : List Value) (ns : List Int),
      Ground q loose [] XP w s₀ mg mb s₁.heap → YP w s₁.heap →
      s₁.heap.get? fa = some o → o.data = .func (docDef d.name d.params d.body d.scope pm cd doc) → s₁.heap.CodeRec cd d.name → mg d.name = some (.ref fa) →
      s₁.heap.get? a = some { cls := .type "list", data := .seq vs.toArray } → IntsAre vs ns → ns.length ≤ n → s₁.gens = #[] →
      codeAny (model l.prog w) callerA (.call (.ref fa) ⟨[.ref a], []⟩) (fun r s' => r = .ok (.ret (.bool true)) ∧ OldK s₁.heap s'.heap ∧ s'.os = s₁.os ∧ AllBare s'.gens) s₁) :
    WalkO q loose XP YP l.row.toRowW d [] (fun f vs => PySem.call f vs) := by
  intro w s₀ s₁ mg mb G Y fa o pm cd doc dV kV ho hd hcd hD hmg hg args vals as hpre hlay hrd hwl hlo
  obtain rfl : dV = .none := Dflts.none hD hdf
  obtain rfl : kV = .none := Dflts.noKw hD
  obtain ⟨a, vs, ns, rfl, rfl, hobj, hints, hlen⟩ := qjp hn hpre hwl
  refine enter_call (codeAny_mono (call w s₀ s₁ mg mb fa o pm cd doc a vs ns G Y ho (fd_plain hd) hcd hmg hobj hints hlen hg) fun r s' hq => ?_)
  obtain ⟨rfl, h2, h3, h4⟩ := hq
  exact ⟨.inl ⟨.bool true, .bool true, [], rfl, fun _ => rfl, .bool true, yj4 l _, fun _ => ⟨List.Pairwise.nil, fun _ hm => (nomatch hm)⟩⟩, h2, h3, h4⟩
section
variable {prog : Program} {w : World} {A : Around} {E : Value → Shared → Prop} {s : Shared} {K : Frag}
end
end Att
namespace L2
open PySem PySem.Spec PyProof.Rows
theorem qgq : ∀ {vs : List Value} {ns : List Int}, IntsAre vs ns → Vals (ns.map V.int) vs
  | _, _, .nil => .nil
  | _, _, .cons n t h => .cons ⟨t, rfl⟩ (qgq h)
def Only (H : Hp) : Prop := ∀ b, H b = none ∨ ∃ o xs, H b = some (.frz o (.lst xs))
theorem law_call {P : Program} {w : World} {K : PySem.W.Frag} {mg mb : Str → Option Value} {CX : CXT} {k : Nat} {fa a : Addr} {fd : FuncData} {x : Str} {sp : Sp} {s₁ : Shared} {vs : List Value} {ns : List Int}
    (KX : K.In s₁.heap) (hns : s₁.heap.Ns mainGlobals mg) (hb : s₁.heap.Ns builtinsNs mb) (hbb : ∀ x : Str, x ≠ "__name__" → mb x = bootBuiltins x) (hlim : s₁.heap.NoLimit) (hg : s₁.gens = #[])
    (ha : s₁.heap.get? a = some { cls := .type "list", data := .seq vs.toArray }) (hi : IntsAre vs ns) (hl : ns.length ≤ sizeLine) (hr : Room k callerA)
    (F : ∀ base : Heap, K.In base → base.Ns mainGlobals mg → FnOk P w K mg base CX k fa fd [x] sp) (hbind : ∀ (s : Shared) (u : Value), BindsTo s fd ⟨[u], []⟩ [(x, u)])
    (hsp : ∀ H : Hp, Only H → SqL K H a (ns.map V.int) → sp [.ref a] H (fun v _ => v = .bl true) fun _ _ _ => False)
    (hCX : ∀ H e s', CX [] H s₁ (fun _ _ _ => False) e s' → False) :
    codeAny (model P w) callerA (.call (.ref fa) ⟨[.ref a], []⟩) (fun r s' => r = .ok (.ret (.bool true)) ∧ OldK s₁.heap s'.heap ∧ s'.os = s₁.os ∧ AllBare s'.gens) s₁ := by
  have rv := qgq hi
  have lenV := hi.length
  -- from an abstract heap in which nothing but the script may be tracked
  have core : ∀ H : Hp, Only H → SqL K H a (ns.map V.int) → HOk P w H s₁.heap → (∀ b, H b ≠ none → b = a) → (H a ≠ none → K.lookup a = none) →
      codeAny (model P w) callerA (.call (.ref fa) ⟨[.ref a], []⟩) (fun r s' => r = .ok (.ret (.bool true)) ∧ OldK s₁.heap s'.heap ∧ s'.os = s₁.os ∧ AllBare s'.gens) s₁ := by
    intro H hO hS hok hA hK
    have base_of : ∀ {b : Addr} {o : Obj}, s₁.heap.get? b = some o → H b = none → (hidT s₁.heap H).get? b = some o := fun e n => hidT_get e n
    have noA : ∀ {b : Addr} {o : Obj} {es : Array DictEntry} {ep : Nat}, s₁.heap.get? b = some o → o.data = .dict es ep → H b = none := fun {b o es ep} e d => by
      cases q : H b with
      | none => rfl
      | some u =>
        have e' : b = a := hA b (by rw [q]; simp)
        subst e'
        rw [ha] at e; cases e
        have d' : Data.seq vs.toArray _ = Data.dict es ep := d
        cases d'
    have nsK : ∀ {b : Addr} {m : Str → Option Value}, s₁.heap.Ns b m → (hidT s₁.heap H).Ns b m := fun {b m} ⟨o, es, ep, e, d, r⟩ => ⟨o, es, ep, base_of e (noA e d), d, r⟩
    have hKb : K.In (hidT s₁.heap H) := fun b o e => base_of (KX b o e) (by
      cases q : H b with
      | none => rfl
      | some u =>
        have e' : b = a := hA b (by rw [q]; simp)
        subst e'
        rw [hK (by rw [q]; simp)] at e; cases e)
    have hM : Mod K mg (hidT s₁.heap H) := ⟨hKb, nsK hns, ⟨mb, nsK hb, hbb⟩, let ⟨mc, h1, h2⟩ := hlim; ⟨mc, nsK h1, h2⟩⟩
    have e0 : Env0 P w K mg (hidT s₁.heap H) callerA [] s₁ H := ⟨rfl, hM, fun b o e => of_hidT e, Nat.le_of_eq (yjd _ _), trivial, fun b hb => absurd (show b ∈ ([] : List Addr) from hb) (by simp), hok, .of_eq hg⟩
    refine codeAny_mono ((F _ hKb (nsK hns)).run callerA [] s₁ H ⟨[.ref a], []⟩ [.ref a] [.ref a] _ _ hr e0 (hbind s₁ (.ref a)) (.cons rfl .nil) (hsp H hO hS)) fun r s' h => ?_
    cases r with
    | error e => exact (hCX H e s' h).elim
    | ok fl =>
      cases fl with
      | next => exact False.elim h
      | brk => exact False.elim h
      | cont => exact False.elim h
      | ret u =>
        obtain ⟨v, H', os, bare, un, hok', r', q⟩ := h
        have q' : v = .bl true := q
        subst q'
        obtain rfl : u = Value.bool true := r'
        refine ⟨rfl, OldK.of_keep fun b o e => ?_, os, bare⟩
        cases q : H b with
        | none => exact un.keep b o e q (by intro z; exact absurd (show b ∈ ([] : List Addr) from z) (by simp)) (by simp)
        | some u =>
          rcases hO b with z | ⟨ob, xs, z⟩
          · rw [q] at z; cases z
          · have z2 := un.frzs b ob _ z
            obtain ⟨e1, _⟩ := hok b _ z
            obtain ⟨e2, _⟩ := hok' b _ z2
            rw [e] at e1; cases e1
            exact e2
  cases hk : K.lookup a with
  | some o =>
    -- the script is one of the module's own objects
    have e := KX a o hk
    rw [ha] at e
    cases e
    refine core (fun _ => none) (fun _ => .inl rfl) (.inr ⟨_, vs.toArray, _, hk, rfl, rfl, rfl, by rw [List.size_toArray, lenV]; exact hl, by simpa using rv⟩) (fun b u z => by have z' : (none : Option HO) = some u := z; cases z') (fun b z => absurd rfl z) fun z => absurd rfl z
  | none =>
    refine core (fun b => if b = a then some (.frz { cls := .type "list", data := .seq vs.toArray } (.lst (ns.map V.int))) else none) (fun b => ?_) (.inl (.inr ⟨{ cls := .type "list", data := .seq vs.toArray }, if_pos rfl⟩)) (fun b u z => ?_) (fun b z => ?_) fun _ => hk
    · by_cases hb : b = a
      · exact .inr ⟨_, _, if_pos hb⟩
      · exact .inl (if_neg hb)
    · by_cases hb : b = a
      · have z' := (if_pos hb).symm.trans z
        cases z'
        subst hb
        exact ⟨ha, by rw [List.length_map]; exact hl, vs, _, rv, ha⟩
      · have z' := (if_neg hb).symm.trans z
        cases z'
    · by_cases hb : b = a
      · exact hb
      · exact absurd (if_neg hb) z
theorem walk_of {l : PySem.W.OpenLaw} {n k : Nat} {q : Program} {loose : List Str} {XP : (Str → Option Value) → Heap → Prop} {YP : World → Heap → Prop} {d : DefRec} {K : Params → PySem.W.Frag} {CX : World → CXT} {sp : World → Sp} {x : Str}
    (hn : l.most = some n) (hn2 : n ≤ sizeLine) (hdf : d.params.defaults = []) (hr : Room k callerA)
    (hY : ∀ (w : World) (h : Heap), YP w h → (K w.params).In h)
    (F : ∀ (w : World) (mg : Str → Option Value) (fa : Addr) (h : Heap), (K w.params).In h → h.Ns mainGlobals mg → mg d.name = some (.ref fa) →
      ∃ fd : FuncData, (∀ (s : Shared) (u : Value), BindsTo s fd ⟨[u], []⟩ [(x, u)]) ∧
        ∀ base : Heap, (K w.params).In base → base.Ns mainGlobals mg → FnOk l.prog w (K w.params) mg base (CX w) k fa fd [x] (sp w))
    (hsp : ∀ (w : World) (H : Hp) (a : Addr) (ns : List Int), ns.length ≤ n → Only H → SqL (K w.params) H a (ns.map V.int) → sp w [.ref a] H (fun v _ => v = .bl true) fun _ _ _ => False)
    (hCX : ∀ (w : World) (H : Hp) (s : Shared) (e : Value) (s' : Shared), CX w [] H s (fun _ _ _ => False) e s' → False) :
    PySem.W.WalkO q loose XP YP l.row.toRowW d [] (fun f vs => PySem.call f vs) := by
  refine Att.attach_call hn hdf fun w s₀ s₁ mg mb fa o pm cd doc a vs ns G Y ho hd hcd hmg hobj hints hlen hg => ?_
  have KX := hY w _ Y
  obtain ⟨fd, hb, hF⟩ := F w mg fa _ KX G.T.g hmg
  exact law_call KX G.T.g G.T.b G.T.builtins G.T.nolimit hg hobj hints (Nat.le_trans hlen hn2) hr hF hb (fun H hO hS => hsp w H a ns hlen hO hS) fun H e s' => hCX w H s₁ e s'
def qed (s : Stmt) (j : Nat) : Stmt := match s with
  | .ClassDef _ _ _ body _ _ _ _ _ _ _ => body.getD j (.Pass ⟨0, 0, 0, 0⟩)
  | _ => .Pass ⟨0, 0, 0, 0⟩
def yaj (s : Stmt) : Arguments := match s with
  | .FunctionDef _ a _ _ _ _ _ _ _ _ => a
  | _ => { posonlyargs := [], args := [], vararg := none, kwonlyargs := [], kw_defaults := [], kwarg := none, defaults := [] }
def yag (s : Stmt) : List Stmt := match s with
  | .FunctionDef _ _ b _ _ _ _ _ _ _ => b
  | _ => []
def yab (s : Stmt) : Scope := match s with
  | .FunctionDef _ _ _ _ _ _ sc _ _ _ => sc
  | _ => { kind := .function, names := [], isGenerator := false, isCoroutine := false }
abbrev CX0 : CXT := fun _ _ _ _ _ _ => False
abbrev E0 : XK := fun _ _ _ => False
theorem pass0 {X : Cx} : qdj CX0 X E0 := fun _ _ _ _ _ _ _ h => h.elim
structure Fun (K : PySem.W.Frag) (x qual : Str) (st : Stmt) (f : Addr) (fd : FuncData) : Prop where
  ex : ∃ (oc : Value) (od : Option Addr) (kV doc pm : Value) (an : Option Addr) (cdv ct : Value) (osl : Array (Option Value)),
    fd = PySem.W.fnOf x qual (yaj st) (yag st) (yab st) .none kV doc pm an cdv ct ∧ K.lookup f = some ⟨oc, od, .func fd, osl⟩ ∧ PySem.W.codeIn K cdv qual = true
  kp : PySem.W.keepIn K (.ref f) = true
section
variable {P : Program} {w : World} {K : PySem.W.Frag} {mg : Str → Option Value} {base : Heap}
theorem Fun.ok {x qual : Str} {st : Stmt} {f : Addr} {fd : FuncData} {N ps : List Str} {k : Nat} {sp : Sp} (F : Fun K x qual st f fd) (S : FnScope N ps (yab st)) (len : ∀ vs H Q E, sp vs H Q E → vs.length = ps.length)
    (hbody : ∀ (cdv : Value) (A : Around) (outer : List Env) (s : Shared) (H : Hp) (vs : List V) (Q : VK) (E : XK), Room k (A.deeper (envOfC qual (yab st) s.heap.objs.size f cdv)) → sp vs H Q E →
      ∃ t, PSs (cxOf CX0 P w K mg base N qual (yab st) f cdv A outer s H E).nox (yag st) t ∧ t { nx := fun _ H' => Q .non H', rt := Q } (ydo N vs) H) : FnOk P w K mg base CX0 (k + 1) f fd ps sp := by
  obtain ⟨oc, od, kV, doc, pm, an, cdv, ct, osl, rfl, lk, hcd⟩ := F.ex
  refine fn_of lk hcd S len fun A outer s H vs Q E hr hsp => ?_
  obtain ⟨t, h, q⟩ := hbody cdv A outer s H vs Q E hr hsp
  exact ⟨t, h.nox, q⟩
theorem Fun.binds {x qual : Str} {st : Stmt} {f : Addr} {fd : FuncData} {ps : List Str} (F : Fun K x qual st f fd)
    (h : ∀ (kV doc pm : Value) (an : Option Addr) (cdv ct : Value) (us : List Value), us.length = ps.length → bindArgs (PySem.W.fnOf x qual (yaj st) (yag st) (yab st) .none kV doc pm an cdv ct) ⟨us, []⟩ = pure (ps.zip us)) : qck K fd ps [] := by
  obtain ⟨oc, od, kV, doc, pm, an, cdv, ct, osl, rfl, lk, hcd⟩ := F.ex
  exact .all (h kV doc pm an cdv ct)
theorem qcn {x qual : Str} {st : Stmt} {f : Addr} {oc : Value} {od an : Option Addr} {osl : Array (Option Value)} {kV doc pm cdv ct : Value} (l : K.lookup f = some ⟨oc, od, .func (PySem.W.fnOf x qual (yaj st) (yag st) (yab st) .none kV doc pm an cdv ct), osl⟩)
    (c : PySem.W.codeIn K cdv qual = true) (k : PySem.W.keepIn K (.ref f) = true) : Fun K x qual st f (PySem.W.fnOf x qual (yaj st) (yag st) (yab st) .none kV doc pm an cdv ct) := ⟨⟨oc, od, kV, doc, pm, an, cdv, ct, osl, rfl, l, c⟩, k⟩
end
section
variable {X : Cx}
theorem pv (i : Nat) {x : Str} {pos : Pos} (hN : X.N[i]? = some x := by rfl) (hv : Vis X.env.scope x := by first | exact Or.inl rfl | exact Or.inr (Or.inl rfl) | exact Or.inr (Or.inr rfl)) (hd : (x == ("__debug__" : Str)) = false := by decide)
    (hcd : (x == ("__classdict__" : Str)) = false := by decide) : PE X (.Name x pos) (tVar i) := pe_var hN hv hd hcd
end
theorem iteF {A B : Prop} (h : B) : if false = true then A else B := by
  rw [if_neg Bool.false_ne_true]
  exact h
theorem iteT {A B : Prop} (h : A) : if true = true then A else B := by
  rw [if_pos rfl]
  exact h
def Same (H H' : Hp) : Prop := ∀ b o, H b = some o → H' b = some o
theorem Same.refl (H : Hp) : Same H H := fun _ _ h => h
theorem Same.trans {H H1 H2 : Hp} (a : Same H H1) (b : Same H1 H2) : Same H H2 := fun c o h => b c o (a c o h)
theorem Same.free {H H' : Hp} (e : Same H H') {l : Addr} (h : H' l = Option.none) : H l = Option.none := by
  cases q : H l with
  | none => rfl
  | some o =>
    rw [e l o q] at h
    cases h
theorem Same.seq {K : PySem.W.Frag} {H H' : Hp} {a : Addr} {xs : List V} (e : Same H H') (h : SqL K H a xs) : SqL K H' a xs := by
  rcases h with (h | ⟨o, h⟩) | h
  · exact .inl (.inl (e _ _ h))
  · exact .inl (.inr ⟨o, e _ _ h⟩)
  · exact .inr h
mutual
inductive At (H : Hp) : V → PyData → Prop
  | non : At H .non .none
  | bl (b : Bool) : At H (.bl b) (.bool b)
  | int (i : Int) : At H (.int i) (.int i)
  | str (x : Str) : At H (.str x) (.str x)
  | lst {a : Addr} {vs : List V} {ds : List PyData} : H a = some (.lst vs) → AtAll H vs ds → At H (.ref a) (.list ds)
  | tup {a : Addr} {vs : List V} {ds : List PyData} : H a = some (.tup vs) → AtAll H vs ds → At H (.ref a) (.tuple ds)
inductive AtAll (H : Hp) : List V → List PyData → Prop
  | nil : AtAll H [] []
  | cons {v : V} {d : PyData} {vs : List V} {ds : List PyData} : At H v d → AtAll H vs ds → AtAll H (v :: vs) (d :: ds)
end
mutual
theorem At.same {H H' : Hp} (s : Same H H') : ∀ {v : V} {d : PyData}, At H v d → At H' v d
  | _, _, .non => .non
  | _, _, .bl b => .bl b
  | _, _, .int i => .int i
  | _, _, .str x => .str x
  | _, _, .lst e t => .lst (s _ _ e) (AtAll.same s t)
  | _, _, .tup e t => .tup (s _ _ e) (AtAll.same s t)
theorem AtAll.same {H H' : Hp} (s : Same H H') : ∀ {vs : List V} {ds : List PyData}, AtAll H vs ds → AtAll H' vs ds
  | _, _, .nil => .nil
  | _, _, .cons a b => .cons (At.same s a) (AtAll.same s b)
end
theorem AtAll.length {H : Hp} : ∀ {vs : List V} {ds : List PyData}, AtAll H vs ds → vs.length = ds.length
  | _, _, .nil => rfl
  | _, _, .cons _ b => congrArg (· + 1) b.length
theorem AtAll.get {H : Hp} : ∀ {vs : List V} {ds : List PyData} {i : Nat} {v : V}, AtAll H vs ds → vs[i]? = some v → ∃ d, ds[i]? = some d ∧ At H v d
  | _, _, i, _, .nil, h => by simp at h
  | _, _, 0, _, .cons a _, h => by simp at h; subst h; exact ⟨_, rfl, a⟩
  | _, _, i + 1, v, .cons _ b, h => by
    obtain ⟨d, h1, h2⟩ := AtAll.get (i := i) (v := v) b (by simpa using h)
    exact ⟨d, by simpa using h1, h2⟩
theorem AtAll.append {H : Hp} : ∀ {vs ws : List V} {ds es : List PyData}, AtAll H vs ds → AtAll H ws es → AtAll H (vs ++ ws) (ds ++ es)
  | _, _, _, _, .nil, h => h
  | _, _, _, _, .cons a b, h => .cons a (b.append h)
theorem AtAll.take {H : Hp} : ∀ {vs : List V} {ds : List PyData} (n : Nat), AtAll H vs ds → AtAll H (vs.take n) (ds.take n)
  | _, _, 0, _ => .nil
  | _, _, _ + 1, .nil => .nil
  | _, _, n + 1, .cons a b => .cons a (b.take n)
theorem AtAll.drop {H : Hp} : ∀ {vs : List V} {ds : List PyData} (n : Nat), AtAll H vs ds → AtAll H (vs.drop n) (ds.drop n)
  | _, _, 0, h => h
  | _, _, _ + 1, .nil => .nil
  | _, _, n + 1, .cons _ b => b.drop n
theorem AtAll.snoc {H : Hp} {vs : List V} {ds : List PyData} {v : V} {d : PyData} (h : AtAll H vs ds) (a : At H v d) : AtAll H (vs ++ [v]) (ds ++ [d]) := h.append (.cons a .nil)
mutual
theorem At.reads {P : Program} {w : World} {H : Hp} {h : Heap} (ok : HOk P w H h) : ∀ {v : V} {d : PyData} {u : Value}, At H v d → RelV v u → ∃ as, Reads h u d as
  | _, _, _, .non, r => by cases r; exact ⟨_, .none⟩
  | _, _, _, .bl b, r => by cases r; exact ⟨_, .bool b⟩
  | _, _, _, .int i, r => by obtain ⟨t, rfl⟩ := r; exact ⟨_, .int i t⟩
  | _, _, _, .str x, r => by obtain ⟨t, rfl⟩ := r; exact ⟨_, .str x t⟩
  | _, _, _, .lst e t, r => by
    cases r
    obtain ⟨z, its, n, rv, ho⟩ := ok _ _ e
    obtain ⟨as, q⟩ := AtAll.reads ok t rv
    exact ⟨_, .list ho rfl rfl (by simpa using q)⟩
  | _, _, _, .tup e t, r => by
    cases r
    obtain ⟨z, its, rv, o, ho, hc, n, hd⟩ := ok _ _ e
    obtain ⟨as, q⟩ := AtAll.reads ok t rv
    exact ⟨_, .tuple ho hc hd (by simpa using q)⟩
theorem AtAll.reads {P : Program} {w : World} {H : Hp} {h : Heap} (ok : HOk P w H h) : ∀ {vs : List V} {ds : List PyData} {us : List Value}, AtAll H vs ds → Vals vs us → ∃ as, ReadsAll h us ds as
  | _, _, _, .nil, .nil => ⟨_, .nil⟩
  | _, _, _, .cons a b, .cons r s => by
    obtain ⟨as, q⟩ := At.reads ok a r
    obtain ⟨bs, q2⟩ := AtAll.reads ok b s
    exact ⟨_, .cons q q2⟩
end
mutual
theorem At.noDict {H : Hp} : ∀ {v : V} {d : PyData}, At H v d → d.hasDict = false
  | _, _, .non => by simp [PyData.hasDict]
  | _, _, .bl b => by simp [PyData.hasDict]
  | _, _, .int i => by simp [PyData.hasDict]
  | _, _, .str x => by simp [PyData.hasDict]
  | _, _, .lst e t => by simp only [PyData.hasDict]; exact AtAll.noDict t
  | _, _, .tup e t => by simp only [PyData.hasDict]; exact AtAll.noDict t
theorem AtAll.noDict {H : Hp} : ∀ {vs : List V} {ds : List PyData}, AtAll H vs ds → PyData.hasDictAll ds = false
  | _, _, .nil => by simp [PyData.hasDictAll]
  | _, _, .cons a b => by simp only [PyData.hasDictAll, At.noDict a, AtAll.noDict b, Bool.or_self]
end
section
variable {X : Cx}
end
section
variable {X : Cx} {pins : List (Addr × Obj)} {σ : St} {H : Hp} {s : Shared} {h' : Heap}
theorem Inv.turnedL {ch : List Addr} {a : Addr} {o : HO} {t' : Nat} (I : Inv X pins σ H s) (k : ∀ b u, b ∉ ch → s.heap.get? b = some u → h'.get? b = some u) (hf : ∀ b ∈ ch, FpOk X pins H b)
    (hp : s.heap.objs.size ≤ a) (new : qbj X.prog X.w (upd H a o) h' a o) : Inv X pins σ (upd H a o) { s with heap := h', toks := t' } := by
  have hn : H a = none := I.hok.fresh hp
  have nit : ∀ b u, H b = some u → b ∉ ch := fun b u e z => by rw [(hf b z).1] at e; cases e
  refine I.step (g' := s.gens) (d' := s.drawn) (ch := ch) (fun b hb => ?_) (fun b u _ _ hc e _ => k b u hc e) (fun b u _ _ hc e _ => ⟨u.slots, k b u hc e⟩) (fun b u _ e n => ?_)
    (fun b u hc e => ⟨u, k b u hc e⟩) (fun b xs e => ?_) (fun b u xs e => ?_) (fun b ps e => ⟨#[], ?_⟩) (fun m hm => ?_) (fun b u e => ?_) I.bare
  · obtain ⟨_, f1, _, f3, f4, f5⟩ := hf b hb
    exact ⟨f3, f1, f4, f5⟩
  · rw [qag (Nat.ne_of_lt (Nat.lt_of_lt_of_le (Heap.lt_size e) hp))]; exact n
  · rw [qag (yah e hn)]; exact e
  · rw [qag (yah e hn)]; exact e
  · rw [qag (yah e hn), e]; simp
  · obtain ⟨ob, es, ep, ho, r⟩ := hm
    exact ⟨ob, es, ep, k _ ob (fun z => (hf _ z).2.1 rfl) ho, r⟩
  · by_cases hb : b = a
    · subst hb; rw [yaa] at e; cases e; exact new
    · rw [qag hb] at e
      refine (I.hok b u e).stay (fun c v hc q => k c v ?_ q) (fun c q => by rw [qag (yah q hn)]; exact q) fun c xs q => by rw [qag (yah q hn)]; exact q
      rcases hc with rfl | hc
      · exact nit _ u e
      · exact nit c _ hc
end
def Ite (K : PySem.W.Frag) (a : Addr) : It :=
  ⟨fun i H => ∃ xs x, SqL K H a xs ∧ xs[i]? = some x, fun i H x H' => ∃ p y, H p = none ∧ x = .ref p ∧ H' = upd H p (.tup [.int i, y]) ∧ ∀ xs, SqL K H a xs → xs[i]? = some y, fun i H => ∃ xs, SqL K H a xs ∧ xs.length ≤ i⟩
theorem qkd {P : Program} {w : World} {K : PySem.W.Frag} {es : List Expr} {k : Nat} {tp : Pos} (a e it : Addr) (hne : e ≠ it) :
    Turn P w K (.Tuple es k tp) (Ite K a) [e, it] e (fun i h => (∃ old, IsEnum h e it i old) ∧ h.IsListIter it a i) where
  mem := by simp
  obj := fun i h st b hb => by
    obtain ⟨⟨old, he⟩, o, ho, hc, hd⟩ := st
    have hb' : b = e ∨ b = it := by simpa using hb
    rcases hb' with rfl | rfl
    · exact ⟨_, he, fun v z => by
        have z' : Data.fields _ = Data.cell v := z
        cases z'⟩
    · exact ⟨o, ho, fun v z => by rw [hd] at z; cases z⟩
  keep := fun i h h' st kk => ⟨st.1.imp fun _ z => kk e (by simp) _ z, st.2.at fun o z => kk it (by simp) o z⟩
  item := by
    intro X hP hw hK hc i pins s σ H E I hf st hg
    subst hP hw hK
    obtain ⟨xs, x, hq, hx⟩ := hg
    obtain ⟨its, rv, p, hz⟩ := I.list hq
    obtain ⟨u, hu, ru⟩ := rv.get hx
    obtain ⟨⟨old, he⟩, hit⟩ := st
    refine wpAny_pyNext_enum_item he hit p.isList (x := u) (by simpa using hu) hne fun h' ho hit' hT hsz hk => ?_
    have hel : e < s.heap.objs.size := Heap.lt_size he
    have hil : it < s.heap.objs.size := by obtain ⟨_, z, _⟩ := hit; exact Heap.lt_size z
    refine ⟨_, rfl, wpAny_letOwnedTupleGo_enum ho fun h2 he2 hs2 => ?_⟩
    have keep2 : ∀ b ob, b ∉ [e, it] → s.heap.get? b = some ob → h2.get? b = some ob := fun b ob hb z => by
      have h1 : b ≠ e := fun q => hb (by simp [q])
      have h3 : b ≠ it := fun q => hb (by simp [q])
      exact (hs2.2 b h1).trans (hk b ob h1 h3 z)
    have hT2 : h2.get? s.heap.objs.size = some { cls := .type "tuple", data := .seq #[.int i s.toks, u] } := (hs2.2 _ (Nat.ne_of_gt hel)).trans hT
    have fresh : H s.heap.objs.size = none := I.hok.fresh (Nat.le_refl _)
    have new : qbj X.prog X.w (upd H s.heap.objs.size (.tup [.int i, x])) h2 s.heap.objs.size (.tup [.int i, x]) :=
      ⟨by show 2 ≤ sizeLine; decide, [.int i s.toks, u], .cons ⟨_, rfl⟩ (.cons ru .nil), ⟨_, hT2, rfl, _, rfl⟩⟩
    refine ⟨.ref s.heap.objs.size, upd H s.heap.objs.size (.tup [.int i, x]), I.turnedL keep2 hf (Nat.le_refl _) new, rfl, ⟨_, x, fresh, rfl, rfl, fun ys hy => by rw [I.list_inj hy hq]; exact hx⟩, ⟨⟨_, by simpa using he2⟩, hit'.at fun o z => (hs2.2 it hne.symm).trans z⟩, fun b hb => ?_⟩
    rw [qag]
    · exact (hf b hb).1
    · have hb' : b = e ∨ b = it := by simpa using hb
      rcases hb' with rfl | rfl
      · exact Nat.ne_of_lt hel
      · exact Nat.ne_of_lt hil
  done := by
    intro X hP hw hK hc i pins s σ H E I hf st hg
    subst hP hw hK
    obtain ⟨xs, hq, hx⟩ := hg
    obtain ⟨its, rv, p, hz⟩ := I.list hq
    obtain ⟨⟨old, he⟩, hit⟩ := st
    have hl := rv.length
    obtain ⟨f0, f1, f2, f3, f4, f5⟩ := hf it (by simp)
    exact wpAny_pyNext_enum_end (I.ok.hd hc) he hit p.isList (by simp; omega) fun h' eb => ⟨rfl, I.turned (t' := s.toks) (fun b o hb z => eb b o hb z) f0 f1 f3 f4 f5⟩
  self := fun _ _ _ _ _ st h => wpAny_pyIter_enum st.1.choose_spec h
def iEnum (K : PySem.W.Frag) (ta : TA) : TI := fun σ H R => ta σ H fun vs H1 => ∃ a xs, vs = [.ref a] ∧ SqL K H1 a xs ∧ R (Ite K a) H1
section
variable {X : Cx}
theorem yf6 {a : Expr} {ta : TA} {p pos tp : Pos} {es : List Expr} {k : Nat} (hg : Gl X "enumerate") (hm : X.mg "enumerate" = none) (ha : PA X [a] ta) (hs : starEach [a] X.env = [(false, eval a X.env)] := by rfl) :
    PI X (.Tuple es k tp) (.Call (.Name "enumerate" p) [a] [] pos) (iEnum X.K ta) := by
  intro pins s σ H R I h
  refine Call_ (yf0 I hg hm boot_enumerate (PyProof.Rows.callWith_type1 (thn (ha pos pins s σ H _ I h) fun us s1 ⟨vs, H1, I1, r1, q1⟩ => ?_) hs rfl))
  obtain ⟨l, xs, e, hq, q⟩ := q1
  subst e
  cases r1 with
  | cons r rr =>
    cases rr
    cases r
    obtain ⟨its, rv, pl, hz⟩ := I1.list hq
    refine call_enumerate_list pl.isList fun h' he hit hsz hk => ?_
    refine wpAny_pyIter_enum he ⟨_, [s1.heap.objs.size + 1, s1.heap.objs.size], _, Ite X.K l, H1, rfl, I1.kept (t' := s1.toks) hk, qkd l (s1.heap.objs.size + 1) s1.heap.objs.size (Nat.succ_ne_self _), ⟨⟨_, he⟩, hit⟩, fun b hb => ?_, q⟩
    have hb' : b = s1.heap.objs.size + 1 ∨ b = s1.heap.objs.size := by simpa using hb
    rcases hb' with rfl | rfl
    · exact I1.fpOk (Nat.le_succ _) (I1.hok.fresh (Nat.le_succ _))
    · exact I1.fpOk (Nat.le_refl _) (I1.hok.fresh (Nat.le_refl _))
end
theorem yew {K : PySem.W.Frag} {a : Addr} {xs : List V} {g : TG} {tb : TS} {D : Ends} {σ : St} {H : Hp} (Pv : Nat → St → Hp → Prop) (h0 : Pv 0 σ H) (hl : ∀ i σ H, i ≤ xs.length → Pv i σ H → SqL K H a xs)
    (hs : ∀ i x p σ H, xs[i]? = some x → Pv i σ H → H p = none → g (.ref p) σ (upd H p (.tup [.int i, x])) fun σ2 H2 => tb { D with nx := Pv (i + 1), ct := Pv (i + 1), bk := D.nx } σ2 H2) (hd : ∀ σ H, Pv xs.length σ H → D.nx σ H) :
    ∃ W : Nat → Nat → St → Hp → Prop, (∃ m, W 0 m σ H) ∧ ∀ i m σ H, W i m σ H →
      ((Ite K a).stop i H ∧ D.nx σ H) ∨ ((Ite K a).go i H ∧ ∃ N : St → Hp → Prop, (∀ σ' H', N σ' H' → ∃ m', m' < m ∧ W (i + 1) m' σ' H') ∧ ∀ x H', (Ite K a).yld i H x H' → g x σ H' fun σ2 H2 => tb { D with nx := N, ct := N, bk := D.nx } σ2 H2) := by
  refine ⟨fun i m σ H => m = xs.length - i ∧ i ≤ xs.length ∧ Pv i σ H, ⟨xs.length, by simp, Nat.zero_le _, h0⟩, ?_⟩
  rintro i m σ H ⟨rfl, hi, p⟩
  have q := hl i σ H hi p
  by_cases hlt : i < xs.length
  · refine .inr ⟨⟨xs, xs[i], q, by simp [hlt]⟩, Pv (i + 1), fun σ' H' p' => ⟨xs.length - (i + 1), by omega, rfl, hlt, p'⟩, fun x H' y => ?_⟩
    obtain ⟨pp, z, hn, e1, e2, y⟩ := y
    subst e1 e2
    exact hs i z pp σ _ (y xs q) p hn
  · have e : i = xs.length := by omega
    subst e
    exact .inl ⟨⟨xs, q, Nat.le_refl _⟩, hd σ H p⟩
section
variable {X : Cx} {tg : Expr}
end
def clOf (cells : List (Str × Addr)) : List (Str × NameKind) → List (Str × Addr) → List (Str × Addr)
  | [], cs => cs
  | (n, k) :: r, cs => if k = .free then clOf cells r ((n, (cells.lookup n).getD 0) :: cs) else clOf cells r cs
theorem yda {scope : Scope} {env : Env} (h : ∀ x ∈ scope.names, x.2 = .free → ∃ c, env.cells.lookup x.1 = some c) : closureFor scope env = pure (clOf env.cells scope.names []) := by
  unfold closureFor
  generalize hn : scope.names = names at h
  suffices hh : ∀ (l : List (Str × NameKind)) (cs : List (Str × Addr)), (∀ x ∈ l, x.2 = .free → ∃ c, env.cells.lookup x.1 = some c) →
      (forIn l cs (fun (x : Str × NameKind) r => if (x.2 == NameKind.free) = true then (do let a ← cellOf env x.1; pure (ForInStep.yield ((x.1, a) :: r))) else pure (ForInStep.yield r)) : Sem (List (Str × Addr))) = pure (clOf env.cells l cs) by
    have := hh names [] h
    simp only [bind_pure]
    exact this
  intro l
  induction l with
  | nil => intro cs _; rfl
  | cons x l ih =>
    intro cs hl
    obtain ⟨n, k⟩ := x
    rw [List.forIn_cons]
    by_cases hk : k = .free
    · subst hk
      obtain ⟨c, hc⟩ := hl (n, .free) List.mem_cons_self rfl
      have e1 : cellOf env n = pure c := by unfold cellOf; rw [hc]
      have ec : clOf env.cells ((n, NameKind.free) :: l) cs = clOf env.cells l ((n, c) :: cs) := by
        show (if NameKind.free = NameKind.free then _ else _) = _
        rw [if_pos rfl, hc]; rfl
      rw [ec]
      simp only [e1, pure_bind, beq_self_eq_true, if_true]
      exact ih _ fun y hy => hl y (List.mem_cons_of_mem _ hy)
    · have hb : (k == NameKind.free) = false := by cases k <;> first | rfl | exact absurd rfl hk
      have ec : clOf env.cells ((n, k) :: l) cs = clOf env.cells l cs := by
        show (if k = NameKind.free then _ else _) = _
        rw [if_neg hk]
      rw [ec]
      simp only [hb, pure_bind, Bool.false_eq_true, if_false]
      exact ih _ fun y hy => hl y (List.mem_cons_of_mem _ hy)
theorem ydd {cells : List (Str × Addr)} : ∀ {l : List (Str × NameKind)} {cs : List (Str × Addr)}, (∀ x ∈ l, x.2 = .free → ∃ c, cells.lookup x.1 = some c) → (∀ p ∈ cs, cells.lookup p.1 = some p.2) → ∀ p ∈ clOf cells l cs, cells.lookup p.1 = some p.2
  | [], _, _, h => h
  | (n, k) :: r, cs, hl, h => by
    unfold clOf
    split
    · rename_i hk
      refine ydd (fun x hx => hl x (List.mem_cons_of_mem _ hx)) fun p hp => ?_
      rcases List.mem_cons.mp hp with rfl | hp
      · obtain ⟨c, hc⟩ := hl (n, k) List.mem_cons_self hk
        show cells.lookup n = some ((cells.lookup n).getD 0)
        have hc' : cells.lookup n = some c := hc
        rw [hc']; rfl
      · exact h p hp
    · exact ydd (fun x hx => hl x (List.mem_cons_of_mem _ hx)) h
theorem qd4 {l : List (Str × Addr)} {x : Str} (h : ∃ c, (x, c) ∈ l) : ∃ c, l.lookup x = some c := by
  obtain ⟨c, h⟩ := h
  induction l with
  | nil => cases h
  | cons p r ih =>
    obtain ⟨y, d⟩ := p
    by_cases e : (x == y) = true
    · exact ⟨d, by rw [List.lookup_cons, e]⟩
    · have e' : (x == y) = false := by simpa using e
      rcases List.mem_cons.mp h with q | q
      · cases q; exact absurd (beq_self_eq_true _) e
      · obtain ⟨c', z⟩ := ih q
        exact ⟨c', by rw [List.lookup_cons, e']; exact z⟩
theorem yeu {cells : List (Str × Addr)} {x : Str} : ∀ {l : List (Str × NameKind)} {cs : List (Str × Addr)}, ((x, NameKind.free) ∈ l ∨ ∃ c, (x, c) ∈ cs) → ∃ c, (x, c) ∈ clOf cells l cs
  | [], _, h => by
    rcases h with h | h
    · cases h
    · exact h
  | (n, k) :: r, cs, h => by
    unfold clOf
    split
    · rename_i hk
      refine yeu ?_
      rcases h with h | ⟨c, h⟩
      · rcases List.mem_cons.mp h with q | q
        · cases q; exact .inr ⟨_, List.mem_cons_self⟩
        · exact .inl q
      · exact .inr ⟨c, List.mem_cons_of_mem _ h⟩
    · rename_i hk
      refine yeu ?_
      rcases h with h | h
      · rcases List.mem_cons.mp h with q | q
        · cases q; exact absurd rfl hk
        · exact .inl q
      · exact .inr h
theorem yei {env : Env} {x : Str} : ∀ {l : List (Str × NameKind)}, l.lookup x = some .free →
    (l.map fun (n, k) => if (k == NameKind.free && env.scope.kind == .function && env.kindOf n == some .cell) then (n, NameKind.cell) else (n, k)).lookup x = some .cell ∨
    (l.map fun (n, k) => if (k == NameKind.free && env.scope.kind == .function && env.kindOf n == some .cell) then (n, NameKind.cell) else (n, k)).lookup x = some .free
  | [], h => by simp at h
  | (n, k) :: r, h => by
    rw [List.map_cons]
    cases hx : x == n with
    | true =>
      rw [List.lookup_cons, hx] at h
      cases h
      by_cases hc : (NameKind.free == NameKind.free && env.scope.kind == .function && env.kindOf n == some .cell) = true
      · left; simp only [hc, if_true, List.lookup_cons, hx]
      · right; simp only [hc, Bool.false_eq_true, if_false, List.lookup_cons, hx]
    | false =>
      rw [List.lookup_cons, hx] at h
      have ih := yei (env := env) (l := r) h
      by_cases hc : (k == NameKind.free && env.scope.kind == .function && env.kindOf n == some .cell) = true
      · simp only [hc, if_true, List.lookup_cons, hx]; exact ih
      · simp only [hc, Bool.false_eq_true, if_false, List.lookup_cons, hx]; exact ih
theorem qfl {env : Env} {x : Str} : ∀ {l : List (Str × NameKind)}, (∀ y ∈ l, y.2 ≠ .cell) →
    ((l.map fun (n, k) => if (k == NameKind.free && env.scope.kind == .function && env.kindOf n == some .cell) then (n, NameKind.cell) else (n, k)).lookup x = some .cell ∨
    (l.map fun (n, k) => if (k == NameKind.free && env.scope.kind == .function && env.kindOf n == some .cell) then (n, NameKind.cell) else (n, k)).lookup x = some .free) → (x, NameKind.free) ∈ l
  | [], _, h => by simp at h
  | (n, k) :: r, hn, h => by
    rw [List.map_cons] at h
    cases hx : x == n with
    | true =>
      have e : x = n := by simpa using hx
      subst e
      by_cases hc : (k == NameKind.free && env.scope.kind == .function && env.kindOf x == some .cell) = true
      · have : k = .free := by
          simp only [Bool.and_eq_true, beq_iff_eq] at hc
          exact hc.1.1
        subst this
        exact List.mem_cons_self
      · simp only [hc, Bool.false_eq_true, if_false, List.lookup_cons, hx, Option.some.injEq] at h
        rcases h with h | h
        · exact absurd h (hn (x, k) List.mem_cons_self)
        · subst h; exact List.mem_cons_self
    | false =>
      have h' : (r.map fun (n, k) => if (k == NameKind.free && env.scope.kind == .function && env.kindOf n == some .cell) then (n, NameKind.cell) else (n, k)).lookup x = some .cell ∨
          (r.map fun (n, k) => if (k == NameKind.free && env.scope.kind == .function && env.kindOf n == some .cell) then (n, NameKind.cell) else (n, k)).lookup x = some .free := by
        by_cases hc : (k == NameKind.free && env.scope.kind == .function && env.kindOf n == some .cell) = true
        · simp only [hc, if_true, List.lookup_cons, hx] at h; exact h
        · simp only [hc, Bool.false_eq_true, if_false, List.lookup_cons, hx] at h; exact h
      exact List.mem_cons_of_mem _ (qfl (fun y hy => hn y (List.mem_cons_of_mem _ hy)) h')
def qbb (X : Cx) (M : List Str) (scope : Scope) (C : Addr) (fp : List Addr) (s2 : Shared) (H2 : Hp) : Cx :=
  { prog := X.prog, w := X.w, K := X.K, mg := X.mg, base := X.base, A := X.A, N := M, s₀ := s2, H₀ := H2, env := compEnvC scope (clOf X.env.cells scope.names []) C X.env,
    outer := X.stack, stack := X.stack, ex := fp, fn := fun _ => false, calm := X.calm, pn := [], xe := fun _ _ => False }
def capS (ix : List (Option Nat)) (σ : St) : St := ix.map fun o => match o with
  | none => none
  | some j => (σ[j]?).getD none
structure CompOk (N M : List Str) (ix : List (Option Nat)) (sc xs : Scope) : Prop where
  kind : sc.kind = .function
  len : M.length = ix.length
  nocell : ∀ y ∈ sc.names, y.2 ≠ .cell
  loc : ∀ y ∈ sc.names, y.2 = .local → sc.names.lookup y.1 = some .local
  fr : ∀ y ∈ sc.names, y.2 = .free → xs.names.lookup y.1 = some .cell ∨ xs.names.lookup y.1 = some .free
  cap : ∀ (i : Nat) (j : Nat), ix[i]? = some (some j) → ∃ x, M[i]? = some x ∧ N[j]? = some x ∧ sc.names.lookup x = some .free
def yjq (N M : List Str) (ix : List (Option Nat)) (sc xs : Scope) : Bool :=
  decide (sc.kind = .function) && decide (M.length = ix.length) && sc.names.all (fun y => decide (y.2 ≠ .cell)) && sc.names.all (fun y => decide (y.2 ≠ .local) || decide (sc.names.lookup y.1 = some .local)) &&
  sc.names.all (fun y => decide (y.2 ≠ .free) || decide (xs.names.lookup y.1 = some .cell) || decide (xs.names.lookup y.1 = some .free)) &&
  (List.range ix.length).all (fun i => match ix[i]? with
    | some (some j) => match M[i]? with
      | some x => decide (N[j]? = some x) && decide (sc.names.lookup x = some .free)
      | none => false
    | _ => true)
theorem qbl {N M : List Str} {ix : List (Option Nat)} {sc xs : Scope} (h : yjq N M ix sc xs = true) : CompOk N M ix sc xs := by
  unfold yjq at h
  simp only [Bool.and_eq_true, List.all_eq_true, decide_eq_true_eq, Bool.or_eq_true] at h
  obtain ⟨⟨⟨⟨⟨h1, h2⟩, h3⟩, h4⟩, h5⟩, h6⟩ := h
  refine ⟨h1, h2, h3, fun y hy e => ?_, fun y hy e => ?_, fun i j e => ?_⟩
  · rcases h4 y hy with q | q
    · exact absurd e q
    · exact q
  · rcases h5 y hy with (q | q) | q
    · exact absurd e q
    · exact .inl q
    · exact .inr q
  · have hi : i < ix.length := (List.getElem?_eq_some_iff.mp e).1
    have q := h6 i (List.mem_range.mpr hi)
    rw [e] at q
    cases hm : M[i]? with
    | none => rw [hm] at q; cases q
    | some x =>
      rw [hm] at q
      simp only [Bool.and_eq_true, decide_eq_true_eq] at q
      exact ⟨x, rfl, q.1, q.2⟩
section
variable {X : Cx}
def PTs (X : Cx) (ifs : List Expr) (t : TT) : Prop :=
  ∀ (pins : List (Addr × Obj)) (s : Shared) (σ : St) (H : Hp) (Q : Bool → Hp → Prop), Inv X pins σ H s → t σ H Q →
    wpAny (model X.prog X.w) X.A (forIn ifs true fun c r => if r = true then do let ok ← isTrue c X.env (eval c X.env); pure (ForInStep.yield ok) else pure (ForInStep.yield r)) (TP X pins σ Q) X.xe s
def tYes : TT := fun _ H Q => Q true H
theorem qd8 : PTs X [] tYes := fun _ _ _ H _ I h => wpAny_tests_nil ⟨H, I, h⟩
theorem yge {c : Expr} {t : TT} (h : PT X c t) : PTs X [c] t := fun pins s σ H Q I hq => wpAny_tests_one (h pins s σ H Q I hq)
end
theorem Un.butNew {fs ex : List Addr} {H H' : Hp} {h h1 h2 : Heap} {C : Addr} (u : Un fs ex H H' h h1) (hC : h.objs.size ≤ C) (sb : Heap.SameBut C h1 h2) : Un fs ex H H' h h2 := by
  have ne : ∀ b o, h.get? b = some o → b ≠ C := fun b o e => Nat.ne_of_lt (Nat.lt_of_lt_of_le (Heap.lt_size e) hC)
  refine ⟨fun b o e n h3 h4 => (sb.2 b (ne b o e)).trans (u.keep b o e n h3 h4), fun b o e n h3 h4 => ?_, u.free, fun b o e h4 => ?_, u.tups, u.frzs, u.tbls⟩
  · obtain ⟨sl, q⟩ := u.slot b o e n h3 h4
    exact ⟨sl, (sb.2 b (ne b o e)).trans q⟩
  · obtain ⟨o', q⟩ := u.there b o e h4
    exact ⟨o', (sb.2 b (ne b o e)).trans q⟩
section
variable {X : Cx} {pins : List (Addr × Obj)} {σ : St} {H2 : Hp} {s2 : Shared} {M : List Str} {ix : List (Option Nat)} {scope : Scope} {fp : List Addr}
theorem comp_ok {C : Addr} (I : Inv X pins σ H2 s2) (ck : CompOk X.N M ix scope X.env.scope) (hC : s2.heap.objs.size ≤ C) (f2 : ∀ b ∈ fp, FpOk X pins H2 b) (hfp : ∀ b ∈ fp, b < s2.heap.objs.size) : (qbb X M scope C fp s2 H2).Ok := by
  have hfree : ∀ x ∈ scope.names, x.2 = .free → ∃ c, X.env.cells.lookup x.1 = some c := fun x hx e => I.ok.has x.1 (ck.fr x hx e)
  have snd : ∀ x c, (clOf X.env.cells scope.names []).lookup x = some c → X.env.cells.lookup x = some c := fun x c e => ydd (cs := []) hfree (by intro p hp; cases hp) (x, c) (PySem.mem_of_lookup e)
  refine ⟨I.ok.mod, ck.kind, I.ok.glob, I.ok.blt, hC, fun x y c h1 h2 => I.ok.inj x y c (snd x c h1) (snd y c h2), fun x hx => ?_, (by intro x c h; cases h), I.ok.hd, I.ok.frames, .inl rfl, fun b hb => ⟨?_, fun x c e => ?_⟩, fun b o e => I.bs b o e,
    Nat.le_trans I.ok.bsz I.sz, fun b o e hb => ?_, fun b hb hb2 => ?_, I.stack, I.stkFree⟩
  · exact qd4 (yeu (.inl (qfl ck.nocell hx)))
  · exact Nat.ne_of_lt (Nat.lt_of_lt_of_le (hfp b hb) hC)
  · exact (f2 b hb).2.2.2.2.1 x c (snd x c e)
  · rcases (f2 b hb).2.2.2.1 with z | z
    · exact I.ok.noex b o e z
    · exact absurd (Nat.lt_of_lt_of_le (Heap.lt_size e) (Nat.le_trans I.ok.bsz z)) (Nat.lt_irrefl _)
  · obtain ⟨_, n1, n2, _⟩ := f2 b hb
    rcases List.mem_cons.mp (I.stkSub b hb2) with z | z
    · exact n1 z
    · exact n2 z
theorem comp_inv {C D : Addr} {h1 : Heap} {tk : Nat} (I : Inv X pins σ H2 s2) (ck : CompOk X.N M ix scope X.env.scope) (hC : s2.heap.objs.size ≤ C) (hD : s2.heap.objs.size ≤ D) (hDC : C ≠ D) (f2 : ∀ b ∈ fp, FpOk X pins H2 b) (hfp : ∀ b ∈ fp, b < s2.heap.objs.size)
    (old : ∀ b o, s2.heap.get? b = some o → h1.get? b = some o) (hn : h1.Ns C fun _ => none) (hnew : h1.get? D = some { cls := .type "list", data := .seq #[] }) :
    Inv (qbb X M scope C fp s2 H2) [] (capS ix σ) (upd H2 D (.lst [])) { s2 with heap := h1, toks := tk } := by
  have hfree : ∀ x ∈ scope.names, x.2 = .free → ∃ c, X.env.cells.lookup x.1 = some c := fun x hx e => I.ok.has x.1 (ck.fr x hx e)
  have snd : ∀ x c, (clOf X.env.cells scope.names []).lookup x = some c → X.env.cells.lookup x = some c := fun x c e => ydd (cs := []) hfree (by intro p hp; cases hp) (x, c) (PySem.mem_of_lookup e)
  have fD : H2 D = none := I.hok.fresh hD
  refine ⟨comp_ok I ck hC f2 hfp, rfl, I.bare, Un.laid old hD fD, ⟨_, hn, fun i x v e1 e2 e3 => ?_⟩, fun x c e => ?_, ?_, fun x c e => ?_, (by intro p hp; cases hp), I.hok.laid (o := .lst []) old hD ⟨Nat.zero_le _, [], 0, .nil, hnew⟩, ?_⟩
  · obtain ⟨j, hj, hv⟩ : ∃ j, ix[i]? = some (some j) ∧ σ[j]? = some (some v) := by
      unfold capS at e2
      rw [List.getElem?_map] at e2
      cases q : ix[i]? with
      | none => rw [q] at e2; cases e2
      | some o =>
        rw [q] at e2
        cases o with
        | none => cases e2
        | some j =>
          refine ⟨j, rfl, ?_⟩
          have e2' : (σ[j]?).getD none = some v := Option.some.inj e2
          cases z : σ[j]? with
          | none => rw [z] at e2'; cases e2'
          | some y => rw [z] at e2'; rw [show y = some v from e2']
    obtain ⟨y, hm, hN, hf⟩ := ck.cap i j hj
    have e1' : M[i]? = some x := e1
    rw [hm] at e1'; cases e1'
    obtain ⟨m, hnl, hl⟩ := I.loc
    have hmem : (x, NameKind.free) ∈ scope.names := PySem.mem_of_lookup hf
    have hk := ck.fr _ hmem rfl
    obtain ⟨u, ru, lk⟩ := hl j x v hN hv (hk.elim (fun z => .inr (.inl z)) fun z => .inr (.inr z))
    refine ⟨u, ru, .inr ⟨yei hf, ?_⟩⟩
    rcases lk with ⟨kl, _⟩ | ⟨_, c, hc, hcell⟩
    · have kl' : X.env.scope.names.lookup x = some .local := kl
      rcases hk with z | z
      · rw [z] at kl'; cases kl'
      · rw [z] at kl'; cases kl'
    · obtain ⟨c2, h2⟩ := qd4 (yeu (cells := X.env.cells) (cs := []) (.inl hmem))
      have h3 := snd x c2 h2
      rw [hc] at h3; cases h3
      obtain ⟨o, ho, hd⟩ := hcell
      exact ⟨c, h2, o, old c o ho, hd⟩
  · obtain ⟨v, o, ho, hd⟩ := I.cell x c (snd x c e)
    exact ⟨v, o, old c o ho, hd⟩
  · show upd H2 D (.lst []) C = none
    rw [qag hDC]
    exact I.hok.fresh hC
  · show upd H2 D (.lst []) c = none
    obtain ⟨v, z⟩ := I.cell x c (snd x c e)
    rw [qag (Nat.ne_of_lt (Nat.lt_of_lt_of_le z.lt hD))]
    exact I.freeC x c (snd x c e)
  · show (capS ix σ).length = M.length
    unfold capS
    rw [List.length_map, ck.len]
theorem yja {C : Addr} {σ' : St} {H' : Hp} {s' : Shared} {h2 : Heap} {pl : List (Addr × Obj)} (I : Inv X pins σ H2 s2) (J : Inv (qbb X M scope C fp s2 H2) pl σ' H' s') (f2 : ∀ b ∈ fp, FpOk X pins H2 b) (sb : Heap.SameBut C s'.heap h2) : Inv X pins σ H' { s' with heap := h2 } := by
  have hC : s2.heap.objs.size ≤ C := J.ok.above
  refine I.call' (s' := { s' with heap := h2 }) (ch := fp) J.os (Un.butNew J.base hC sb) (fun a o e => ?_) J.bare fun b hb => ?_
  · have fr : H' C = none := J.free
    refine (J.hok a o e).stay (fun c v hc q => (sb.2 c ?_).trans q) (fun _ q => q) fun _ _ q => q
    rintro rfl
    rcases hc with z | z
    · rw [← z, fr] at e; cases e
    · rw [fr] at z; cases z
  · obtain ⟨_, n1, _, n3, n4, n5⟩ := f2 b hb
    exact ⟨n3, n1, n4, n5⟩
end
def qbc (l l' : St) : Prop := l'.length = l.length ∧ ∀ (i : Nat) (v : V), l[i]? = some (some v) → l'[i]? = some (some v)
theorem qbc.refl (l : St) : qbc l l := ⟨rfl, fun _ _ h => h⟩
theorem qbc.set {l l' : St} {i : Nat} {x : Option V} (h : qbc l l') (hi : l[i]? = some none) : qbc l (l'.set i x) := by
  refine ⟨by rw [List.length_set]; exact h.1, fun j v e => ?_⟩
  by_cases hj : j = i
  · subst hj; rw [hi] at e; cases e
  · rw [List.getElem?_set_ne (Ne.symm hj)]; exact h.2 j v e
def tComp (wi : TI) (ix : List (Option Nat)) (g : TG) (tt : TT) (te : TE) : TE := fun σ H Q => wi σ H fun J H1 => ∀ D, H1 D = none → ∃ W : Nat → Nat → Hp → Prop, (∃ m, W 0 m (upd H1 D (.lst []))) ∧ ∀ i m H, W i m H →
  (J.stop i H ∧ Q (.ref D) H) ∨ (J.go i H ∧ ∃ N : Hp → Prop, (∀ H', N H' → ∃ m', m' < m ∧ W (i + 1) m' H') ∧ ∀ x H', J.yld i H x H' → g x (capS ix σ) H' fun σ2 H2 => qbc (capS ix σ) σ2 ∧ tt σ2 H2 fun b H3 =>
    if b = true then te σ2 H3 fun v H4 => ∃ ys, H4 D = some (.lst ys) ∧ ys.length < sizeLine ∧ N (upd H4 D (.lst (ys ++ [v]))) else N H3)
section
variable {X : Cx} {elt tg iter : Expr} {ifs : List Expr} {scope : Scope} {pos : Pos} {wi : TI} {g : TG} {tt : TT} {te : TE} {M : List Str} {ix : List (Option Nat)}
theorem yjj {pins : List (Addr × Obj)} {σ : St} {H2 H4 : Hp} {s2 s4 : Shared} {fp : List Addr} {it C D : Addr} {tn : Nat → Heap → Prop} {J : It} {R : Result → Shared → Prop} {QD : Hp → Prop} (I2 : Inv X pins σ H2 s2) (hc : X.calm = true)
    (f2 : ∀ b ∈ fp, FpOk X pins H2 b) (T : Turn X.prog X.w X.K tg J fp it tn)
    (hg : PG (qbb X M scope C fp s2 H2) tg g) (ht : PTs (qbb X M scope C fp s2 H2) ifs tt) (he : PE (qbb X M scope C fp s2 H2) elt te)
    (I4 : Inv (qbb X M scope C fp s2 H2) [] (capS ix σ) H4 s4) (st4 : tn 0 s4.heap) (fr4 : ∀ b ∈ fp, H4 b = none) (W : Nat → Nat → Hp → Prop) (m0 : Nat) (w0 : W 0 m0 H4)
    (turn : ∀ i m H, W i m H → (J.stop i H ∧ QD H) ∨ (J.go i H ∧ ∃ N : Hp → Prop, (∀ H', N H' → ∃ m', m' < m ∧ W (i + 1) m' H') ∧ ∀ x H', J.yld i H x H' → g x (capS ix σ) H' fun σ2 H2 => qbc (capS ix σ) σ2 ∧ tt σ2 H2 fun b H3 =>
      if b = true then te σ2 H3 fun v H4 => ∃ ys, H4 D = some (.lst ys) ∧ ys.length < sizeLine ∧ N (upd H4 D (.lst (ys ++ [v]))) else N H3))
    (fin : ∀ H' s', Inv (qbb X M scope C fp s2 H2) [] (capS ix σ) H' s' → QD H' → R (.ok .next) s') :
    codeAny (model X.prog X.w) X.A (.compLoop (.ListComp elt [⟨tg, iter, ifs, 0⟩] scope pos) 0 (.ref it) (.ref D) (compEnvC scope (clOf X.env.cells scope.names []) C X.env)) R s4 := by
  have stat : ∀ {H' : Hp}, (∀ b ∈ fp, H' b = none) → ∀ b ∈ fp, FpOk (qbb X M scope C fp s2 H2) [] H' b := fun {H'} hn b hb =>
    ⟨hn b hb, (I4.ok.exf b hb).1, I4.ok.exfs b hb, .inl hb, (I4.ok.exf b hb).2, by intro p hp; cases hp⟩
  refine codeAny_loop rfl (fun n s' => ∃ i H', Inv (qbb X M scope C fp s2 H2) [] (capS ix σ) H' s' ∧ tn i s'.heap ∧ (∀ b ∈ fp, H' b = none) ∧ W i n H') ?_ m0 ⟨0, H4, I4, st4, fr4, w0⟩
  rintro n s5 ⟨i, H5, I5, st5, fr5, w5⟩
  show wpAny (model X.prog X.w) X.A ((compTurn (.ListComp elt [⟨tg, iter, ifs, 0⟩] scope pos) 0 (.ref it) (.ref D) (compEnvC scope (clOf X.env.cells scope.names []) C X.env)).onRaise (fun x => do noteFrame x (compEnvC scope (clOf X.env.cells scope.names []) C X.env); theTreesLotGoes x)) _ _ s5
  refine wpAny_noted ?_
  rw [compTurn_list]
  refine wpAny_bind (wpAny_standAt (wpAny_bind ?_))
  rcases turn i n H5 w5 with ⟨stop, qn⟩ | ⟨go, N, hN, step⟩
  · refine thn (T.done (qbb X M scope C fp s2 H2) rfl rfl rfl hc i [] s5 (capS ix σ) H5 _ I5 (stat fr5) st5 stop) fun r s6 ⟨hr, I6⟩ => ?_
    subst hr
    exact wpAny_pure (fin H5 s6 I6 qn)
  · refine thn (T.item (qbb X M scope C fp s2 H2) rfl rfl rfl hc i [] s5 (capS ix σ) H5 _ I5 (stat fr5) st5 go) fun r s6 ⟨u, hr, h6⟩ => ?_
    subst hr
    refine wpAny_bind (thn h6 fun _ s7 ⟨x, H7, I7, r7, y7, st7, fr7⟩ => ?_)
    have I7' := I7.pinned (stat fr7) (T.obj _ _ st7)
    refine wpAny_bind (wpAny_mono (hg _ s7 (capS ix σ) H7 x u _ I7' r7 (step x H7 y7)) (fun _ s8 ⟨σ8, H8, I8, k8, q8⟩ => ?_) fun _ _ z => False.elim z)
    refine wpAny_bind (wpAny_mono (ht _ s8 σ8 H8 _ I8 q8) (fun ok s9 ⟨H9, I9, q9⟩ => ?_) fun _ _ z => False.elim z)
    have again : ∀ {Ha : Hp} {sa : Shared}, Inv (qbb X M scope C fp s2 H2) ([] ++ qgv fp s7.heap) σ8 Ha sa → N Ha → ∃ m, m < n ∧ ∃ i H', Inv (qbb X M scope C fp s2 H2) [] (capS ix σ) H' sa ∧ tn i sa.heap ∧ (∀ b ∈ fp, H' b = none) ∧ W i m H' := fun {Ha sa} Ia na => by
      obtain ⟨m', hm, wa⟩ := hN Ha na
      refine ⟨m', hm, i + 1, Ha, Ia.unpinned.weak k8.1.symm k8.2, T.keep _ _ _ st7 fun b hb o e => (Ia.pin (b, o) (List.mem_append_right _ (List.mem_append_right _ (qdd hb e)))).1, fun b hb => ?_, wa⟩
      obtain ⟨o, e, d⟩ := T.obj _ _ st7 b hb
      exact (Ia.pin (b, o) (List.mem_append_right _ (List.mem_append_right _ (qdd hb e)))).2.1
    cases ok with
    | false => exact wpAny_pure ⟨rfl, again I9 q9⟩
    | true =>
      refine wpAny_bind (wpAny_bind (wpAny_mono (he _ s9 σ8 H9 _ I9 q9) (fun xv s10 ⟨v, H10, I10, r10, ys, hD, hl, q10⟩ => ?_) fun _ _ z => False.elim z))
      refine wpAny_bind (wpAny_mono (yfj (X := qbb X M scope C fp s2 H2) _ s10 σ8 H10 (.ref D) [v] (.ref D) [xv] (fun _ H' => N H') I10 rfl (.cons r10 .nil) ⟨D, ys, v, rfl, rfl, hD, hl, q10⟩) (fun _ s11 ⟨_, H11, I11, _, q11⟩ => ?_) fun _ _ z => False.elim z)
      exact wpAny_pure (wpAny_pure ⟨rfl, again I11 q11⟩)
theorem qfy {pins : List (Addr × Obj)} {σ : St} {H2 : Hp} {s2 : Shared} {fp : List Addr} {it : Addr} {tn : Nat → Heap → Prop} {J : It} {E : Value → Shared → Prop} {QD : Addr → Hp → Prop} {RR : Value → Addr → Result → Shared → Prop} (I2 : Inv X pins σ H2 s2) (hc : X.calm = true)
    (ck : CompOk X.N M ix scope X.env.scope) (f2 : ∀ b ∈ fp, FpOk X pins H2 b) (T : Turn X.prog X.w X.K tg J fp it tn) (st2 : tn 0 s2.heap)
    (hg : ∀ C fp s2 H2, PG (qbb X M scope C fp s2 H2) tg g) (ht : ∀ C fp s2 H2, PTs (qbb X M scope C fp s2 H2) ifs tt) (he : ∀ C fp s2 H2, PE (qbb X M scope C fp s2 H2) elt te)
    (rd : ∀ D, H2 D = none → ∃ W : Nat → Nat → Hp → Prop, (∃ m, W 0 m (upd H2 D (.lst []))) ∧ ∀ i m H, W i m H →
      (J.stop i H ∧ QD D H) ∨ (J.go i H ∧ ∃ N : Hp → Prop, (∀ H', N H' → ∃ m', m' < m ∧ W (i + 1) m' H') ∧ ∀ x H', J.yld i H x H' → g x (capS ix σ) H' fun σ2 H2 => qbc (capS ix σ) σ2 ∧ tt σ2 H2 fun b H3 =>
        if b = true then te σ2 H3 fun v H4 => ∃ ys, H4 D = some (.lst ys) ∧ ys.length < sizeLine ∧ N (upd H4 D (.lst (ys ++ [v]))) else N H3))
    (fin : ∀ D C H' s', QD D H' → (∃ m, s'.heap.Ns C m) → (∀ h2, Heap.SameBut C s'.heap h2 → Inv X pins σ H' { s' with heap := h2 }) → FpOk X pins H' C → RR (.ref D) C (.ok .next) s') :
    wpAny (model X.prog X.w) X.A (newList []) (fun acc s3 => wpAny (model X.prog X.w) X.A (newFunctionEnv scope X.env.globals (clOf X.env.cells scope.names []) [] X.env.qual none .none (some X.env)) (fun cenv s4 =>
      codeAny (model X.prog X.w) X.A (.compStart (.ListComp elt [⟨tg, iter, ifs, 0⟩] scope pos) 0 (.ref it) acc { cenv with scope := relabel scope X.env }) (RR acc cenv.locals) s4) E s3) E s2 := by
  have hfp : ∀ b ∈ fp, b < s2.heap.objs.size := fun b hb => by obtain ⟨o, e, _⟩ := T.obj 0 _ st2 b hb; exact Heap.lt_size e
  refine wpAny_newObj_type (wpAny_newFunctionEnv ck.nocell (by intro y hy; simp at hy) (fun h1 hn1 hsb1 => ?_) ck.kind)
  dsimp only at hn1 hsb1 ⊢
  generalize hP : s2.heap.push { cls := .type "list", dict := none, data := .seq ([] : List Value).toArray } = hh at hn1 hsb1 ⊢
  have hCz : hh.objs.size = s2.heap.objs.size + 1 := by rw [← hP, Heap.size_push]
  have hCD : hh.objs.size ≠ s2.heap.objs.size := by omega
  have old : ∀ b o, s2.heap.get? b = some o → h1.get? b = some o := fun b o e => by
    have hb : b < s2.heap.objs.size := Heap.lt_size e
    exact hsb1.extBut b o (Nat.ne_of_lt (by rw [hCz]; exact Nat.lt_succ_of_lt hb)) (Heap.get?_push_of_some _ (hP ▸ Heap.get?_push_of_some _ e))
  have hnew : h1.get? s2.heap.objs.size = some { cls := .type "list", data := .seq #[] } := hsb1.extBut _ _ hCD.symm (Heap.get?_push_of_some _ (hP ▸ Heap.get?_push_size _ rfl))
  obtain ⟨W, ⟨m0, w0⟩, turn⟩ := rd s2.heap.objs.size (I2.hok.fresh (Nat.le_refl _))
  have I4 := comp_inv (M := M) (ix := ix) (scope := scope) (fp := fp) (tk := s2.toks + ([] : List (Str × Value)).length) I2 ck (C := hh.objs.size) (D := s2.heap.objs.size) (by omega) (Nat.le_refl _) hCD f2 hfp old hn1 hnew
  have st4 : tn 0 h1 := T.keep _ _ _ st2 fun b _ o e => old b o e
  have fr4 : ∀ b ∈ fp, upd H2 s2.heap.objs.size (.lst []) b = none := fun b hb => by rw [qag (Nat.ne_of_lt (hfp b hb))]; exact (f2 b hb).1
  have lp : codeAny (model X.prog X.w) X.A (.compLoop (.ListComp elt [⟨tg, iter, ifs, 0⟩] scope pos) 0 (.ref it) (.ref s2.heap.objs.size) (compEnvC scope (clOf X.env.cells scope.names []) hh.objs.size X.env)) (RR (.ref s2.heap.objs.size) hh.objs.size) { s2 with heap := h1, toks := s2.toks + ([] : List (Str × Value)).length } := by
    refine yjj (QD := QD s2.heap.objs.size) I2 hc f2 T (hg _ _ _ _) (ht _ _ _ _) (he _ _ _ _) I4 st4 fr4 W m0 w0 turn fun H' s' J' q' => ?_
    obtain ⟨m, hm, _⟩ := J'.loc
    exact fin _ _ H' s' q' ⟨m, hm⟩ (fun h2 sb => yja I2 J' f2 sb) (I2.fpOk (by omega) J'.free)
  exact codeAny_compStart_list lp (T.self _ 0 _ _ _ st4 lp)
theorem qc1 (hc : X.calm = true) (ck : CompOk X.N M ix scope X.env.scope) (hi : PI X tg iter wi) (hg : ∀ C fp s2 H2, PG (qbb X M scope C fp s2 H2) tg g) (ht : ∀ C fp s2 H2, PTs (qbb X M scope C fp s2 H2) ifs tt) (he : ∀ C fp s2 H2, PE (qbb X M scope C fp s2 H2) elt te)
    (hs : ∀ x, foldedSetIterable iter X.env x = pure x := by intro _; rfl) : PE X (.ListComp elt [⟨tg, iter, ifs, 0⟩] scope pos) (tComp wi ix g tt te) := by
  intro pins s σ H Q I h
  have hfree : ∀ x ∈ scope.names, x.2 = .free → ∃ c, X.env.cells.lookup x.1 = some c := fun x hx e => I.ok.has x.1 (ck.fr x hx e)
  rw [eval_ListComp]
  refine wpAny_comprehension_free (use := none) (cl := clOf X.env.cells scope.names []) rfl hs (yda hfree) ck.kind ck.loc (thn (hi pins s σ H _ I h) fun v s1 h1 => thn h1 fun itv s2 h2 => ?_)
  obtain ⟨it, fp, tn, J, H2, e, I2, T, st2, f2, rd⟩ := h2
  subst e
  refine qfy (QD := fun D H' => Q (.ref D) H') I2 hc ck f2 T st2 hg ht he rd fun D C H' s' q hm hb _ => ?_
  obtain ⟨m, hm⟩ := hm
  exact ⟨m, hm, fun h2 sb => ⟨.ref D, H', hb h2 sb, rfl, q⟩⟩
def tCompSet (wi : TI) (ix : List (Option Nat)) (g : TG) (tt : TT) (te : TE) (i : Nat) : TS := fun D σ H => tComp wi ix g tt te σ H fun x H1 => D.nx (σ.set i (some x)) H1
theorem qjg {i : Nat} {x : Str} {pos' spos : Pos} (hsw : swapsWith (.ListComp elt [⟨tg, iter, ifs, 0⟩] scope pos) (some (.Name x pos')) spos.line X.env = pure true) (hN : X.N.Nodup) (hix : X.N[i]? = some x) (hx : Loc X.env.scope x)
    (hc : X.calm = true) (ck : CompOk X.N M ix scope X.env.scope) (hi : PI X tg iter wi) (hg : ∀ C fp s2 H2, PG (qbb X M scope C fp s2 H2) tg g) (ht : ∀ C fp s2 H2, PTs (qbb X M scope C fp s2 H2) ifs tt) (he : ∀ C fp s2 H2, PE (qbb X M scope C fp s2 H2) elt te)
    (hs : ∀ x, foldedSetIterable iter X.env x = pure x := by intro _; rfl) (hf : X.fn x = true ∨ X.env.scope.names.lookup x = some .local := by first | exact .inl rfl | exact .inr rfl | assumption) :
    PS X (.Assign [.Name x pos'] (.ListComp elt [⟨tg, iter, ifs, 0⟩] scope pos) spos) (tCompSet wi ix g tt te i) := by
  intro pins s σ H D0 I h
  have hfree : ∀ x ∈ scope.names, x.2 = .free → ∃ c, X.env.cells.lookup x.1 = some c := fun x hx e => I.ok.has x.1 (ck.fr x hx e)
  rw [exec_Assign_Name_used _ _ _ _ hsw]
  refine wpAny_bind (wpAny_standAt (wpAny_bind ?_))
  show wpAny _ X.A (do let _ ← comprehension (.ListComp elt [⟨tg, iter, ifs, 0⟩] scope pos) scope X.env _ (newList []) false (eval iter X.env) (some (assign (.Name x pos') X.env))) _ _ s
  refine wpAny_bind (wpAny_mono (wpAny_comprehension_free (use := some (assign (.Name x pos') X.env)) (Q := fun _ s' => SP X pins D0 .next s') (cl := clOf X.env.cells scope.names []) rfl hs (yda hfree) ck.kind ck.loc
    (thn (hi pins s σ H _ I h) fun v s1 h1 => thn h1 fun itv s2 h2 => ?_)) (fun _ s' hq => wpAny_pure (wpAny_pure hq)) fun _ _ e => e)
  obtain ⟨it, fp, tn, J, H2, e, I2, T, st2, f2, rd⟩ := h2
  subst e
  refine qfy (QD := fun D H' => D0.nx (σ.set i (some (.ref D))) H') I2 hc ck f2 T st2 hg ht he rd fun D C H' s' q hm hb fpk => ?_
  obtain ⟨m, hm⟩ := hm
  obtain ⟨g0, g1, g2, g3, g4, g5⟩ := fpk
  have I5 : Inv X pins σ H' s' := hb s'.heap ⟨rfl, fun _ _ => rfl⟩
  show wpAny (model X.prog X.w) X.A (assign (.Name x pos') X.env (.ref D)) _ _ s'
  refine wpAny_assign_Name (ygs (v := .ref D) I5 hN hix hx rfl (fun s6 I6 ⟨a, sb, ha⟩ => ?_) hf)
  have hCa : C ≠ a := by
    rcases ha with ha | ha
    · rw [ha]; exact g1
    · exact (g4 x a ha).symm
  refine ⟨m, hm.sameBut sb hCa, fun h2 sb2 => ⟨_, H', I6.turned (t' := s6.toks) (fun b o hb e => (sb2.2 b hb).trans e) g0 g1 g3 g4 g5, q⟩⟩
end
def FnAt (K : PySem.W.Frag) (mg : Str → Option Value) (x : Str) (st : Stmt) (ps : List Str) : Prop := ∃ f fd, mg x = some (.ref f) ∧ Fun K x x st f fd ∧ qck K fd ps []
def Has (P : Program) (w : World) (K : PySem.W.Frag) (mg : Str → Option Value) (base : Heap) (k : Nat) (x : Str) (ps : List Str) (sp : Sp) : Prop :=
  ∃ f fd, mg x = some (.ref f) ∧ PySem.W.keepIn K (.ref f) = true ∧ qck K fd ps [] ∧ FnOk P w K mg base CX0 k f fd ps sp
section
variable {P : Program} {w : World} {K : PySem.W.Frag} {mg : Str → Option Value} {base : Heap}
theorem Has.of {x : Str} {st : Stmt} {ps N : List Str} {k : Nat} {sp : Sp} (F : FnAt K mg x st ps) (S : FnScope N ps (yab st)) (len : ∀ vs H Q E, sp vs H Q E → vs.length = ps.length)
    (hbody : ∀ (f : Addr) (cdv : Value) (A : Around) (outer : List Env) (s : Shared) (H : Hp) (vs : List V) (Q : VK) (E : XK), Room k (A.deeper (envOfC x (yab st) s.heap.objs.size f cdv)) → sp vs H Q E →
      ∃ t, PSs (cxOf CX0 P w K mg base N x (yab st) f cdv A outer s H E).nox (yag st) t ∧ t { nx := fun _ H' => Q .non H', rt := Q } (ydo N vs) H) : Has P w K mg base (k + 1) x ps sp := by
  obtain ⟨f, fd, h1, h2, h3⟩ := F
  exact ⟨f, fd, h1, h2.kp, h3, h2.ok S len fun cdv A outer s H vs Q E hr h => hbody f cdv A outer s H vs Q E hr h⟩
end
section
variable {X : Cx}
theorem qah {k m : Nat} {x : Str} {ps : List Str} {sp : Sp} {e : Expr} {es : List Expr} {t : TA} {p pos : Pos} (h : Has X.prog X.w X.K X.mg X.base k x ps sp) (hr : Room m X.A) (ha : PA X (e :: es) t) (hk : k ≤ m := by decide) (hg : Gl X x := by rfl)
    (hdb : (x == ("__debug__" : Str)) = false := by decide) (he : starEach (e :: es) X.env = (false, eval e X.env) :: starEach es X.env := by rfl) (hpl : (backTo pos (starEach es X.env)).any (·.1) = false := by rfl) :
    PE X (.Call (.Name x p) (e :: es) [] pos) (tCall sp [] E0 t) := by
  obtain ⟨f, fd, h1, h2, h3, h4⟩ := h
  exact yjc h4 (hr.mono hk) hg h1 h2 h3 .nil pass0 ha hdb he hpl
end
def yhc : List Str := ["len", "abs", "max", "min", "repr", "isinstance", "int", "bool", "str", "tuple", "list", "dict", "range", "enumerate", "sorted", "sum"]
structure Bl (mg : Str → Option Value) : Prop where
  all : ∀ x ∈ yhc, mg x = none
theorem Bl.of {mg : Str → Option Value} (B : Bl mg) {x : Str} (h : yhc.contains x = true) : mg x = none := B.all x (by simpa using h)
def GTup (K : PySem.W.Frag) (mg : Str → Option Value) (x : Str) (xs : List V) : Prop := ∃ a, mg x = some (.ref a) ∧ ∀ H, SqT K H a xs
theorem gtup_mk {K : PySem.W.Frag} {mg : Str → Option Value} {x : Str} {a : Addr} {xs : List V} {od : Option Addr} {its : Array Value} {n : Nat} {sl : Array (Option Value)} (h1 : mg x = some (.ref a)) (h2 : K.lookup a = some ⟨.type "tuple", od, .seq its n, sl⟩)
    (h3 : its.size ≤ sizeLine) (h4 : Vals xs its.toList) : GTup K mg x xs := ⟨a, h1, fun H => .inr ⟨_, its, n, h2, rfl, rfl, h3, h4⟩⟩
section
variable {X : Cx}
def tGT (K : PySem.W.Frag) (xs : List V) : TE := fun _ H Q => ∀ a, (∀ H', SqT K H' a xs) → Q (.ref a) H
theorem qi8 {x : Str} {xs : List V} {pos : Pos} (h : GTup X.K X.mg x xs) (hg : Gl X x := by rfl) (hd : (x == ("__debug__" : Str)) = false := by decide) : PE X (.Name x pos) (tGT X.K xs) := by
  obtain ⟨a, h1, h2⟩ := h
  exact fun pins s σ H Q I q => ya5 (v := .ref a) hg h1 rfl hd pins s σ H Q I (q a h2)
theorem qc4 {x : Str} {i : Int} {pos : Pos} (h : ∃ t, X.mg x = some (.int i t)) (hg : Gl X x := by rfl) (hd : (x == ("__debug__" : Str)) = false := by decide) : PE X (.Name x pos) (tC (.int i)) := by
  obtain ⟨t, h1⟩ := h
  exact ya5 (v := .int i) hg h1 ⟨t, rfl⟩ hd
def rIsi (K : PySem.W.Frag) : List V → Hp → VK → Prop := fun xs H Q => ∃ x T t b, xs = [x, .ty T] ∧ TyOf K H x t ∧ PySem.W.kitOne K t (.type T) = some b ∧ Q (.bl b) H
theorem qba : ycz X (.builtin "isinstance") (rIsi X.K) := by
  intro pins s σ H xs us Q I r h
  obtain ⟨x, T, t, b, rfl, ht, hk, q⟩ := h
  cases r with
  | cons r rr =>
    cases rr with
    | cons r' rr =>
      cases rr
      cases r'
      exact qjw I r ht hk fun tk => ⟨.bl b, H, I.tok _, rfl, q⟩
end
def tCut (t u : TS) : TS := fun D σ H => ∃ R : St → Hp → Prop, t { D with nx := R } σ H ∧ ∀ σ' H', R σ' H' → u D σ' H'
theorem pss_cut {X : Cx} {st : Stmt} {rest : List Stmt} {t u : TS} (h1 : PS X st t) (h2 : PSs X rest u) : PSs X (st :: rest) (tCut t u) := by
  intro pins s σ H D I h
  obtain ⟨R, h, hR⟩ := h
  refine wpAny_execs_cons (thn (h1 pins s σ H { D with nx := R } I h) fun f s1 q => ?_)
  cases f with
  | next =>
    obtain ⟨σ', H', I', q⟩ := q
    exact h2 pins s1 σ' H' D I' (hR σ' H' q)
  | ret v => exact q
  | brk => exact q
  | cont => exact q
theorem Same.upd {H H1 : Hp} {p : Addr} {o : HO} (s : Same H H1) (h : H1 p = none) : Same H (upd H1 p o) := fun b u e => by
  have e1 := s b u e
  rw [qag (yah e1 h)]; exact e1
theorem Same.at {H H1 : Hp} {p : Addr} {o : HO} (s : Same H H1) (h : H p = none) : Same H (L2.upd H1 p o) := fun b u e => by
  rw [qag (yah e h)]; exact s b u e
theorem At.tupEq {H : Hp} {v : V} {ds : List PyData} (h : At H v (.tuple ds)) : ∃ a vs, v = .ref a ∧ H a = some (.tup vs) ∧ AtAll H vs ds := by
  cases h with
  | tup e t => exact ⟨_, _, rfl, e, t⟩
theorem At.lstEq {H : Hp} {v : V} {ds : List PyData} (h : At H v (.list ds)) : ∃ a vs, v = .ref a ∧ H a = some (.lst vs) ∧ AtAll H vs ds := by
  cases h with
  | lst e t => exact ⟨_, _, rfl, e, t⟩
theorem At.strEq {H : Hp} {v : V} {x : Str} (h : At H v (.str x)) : v = .str x := by cases h; rfl
theorem At.intEq {H : Hp} {v : V} {x : Int} (h : At H v (.int x)) : v = .int x := by cases h; rfl
def yas (H : Hp) (L : List Addr) : Hp := fun b => if b ∈ L then none else H b
theorem qa3 (H : Hp) (L : List Addr) : Same (yas H L) H := fun b o e => by
  unfold yas at e
  split at e
  · cases e
  · exact e
theorem ybj {H : Hp} {L : List Addr} {b : Addr} (h : b ∉ L) : yas H L b = H b := by unfold yas; rw [if_neg h]
theorem yaq {H H' : Hp} (s : Same H H') (L : List Addr) : Same (yas H L) (yas H' L) := fun b o e => by
  unfold yas at e ⊢
  split at e
  · cases e
  · rename_i h; rw [if_neg h]; exact s b o e
theorem ykf {H : Hp} {L L' : List Addr} (h : ∀ b ∈ L, b ∈ L') : Same (yas H L') (yas H L) := fun b o e => by
  unfold yas at e ⊢
  split at e
  · cases e
  · rename_i hn; rw [if_neg fun z => hn (h b z)]; exact e
theorem qgt {H : Hp} {L : List Addr} {p : Addr} {o : HO} (h : p ∈ L) : yas (upd H p o) L = yas H L := by
  funext b
  unfold yas
  by_cases hb : b ∈ L
  · rw [if_pos hb, if_pos hb]
  · rw [if_neg hb, if_neg hb, qag]
    rintro rfl
    exact hb h
def Bld (L : List Addr) (H : Hp) (l : Addr) (ds : List PyData) : Prop := ∃ us, H l = some (.lst us) ∧ AtAll (yas H (l :: L)) us ds
theorem Bld.new {L : List Addr} {H : Hp} {l : Addr} : Bld L (upd H l (.lst [])) l [] := ⟨[], yaa, .nil⟩
theorem Bld.grow {L : List Addr} {H H' : Hp} {l : Addr} {ds : List PyData} (b : Bld L H l ds) (s : Same H H') : Bld L H' l ds := by
  obtain ⟨us, h1, h2⟩ := b
  exact ⟨us, s _ _ h1, h2.same (yaq s _)⟩
theorem Bld.push {L : List Addr} {H : Hp} {l : Addr} {ds : List PyData} {us : List V} {v : V} {d : PyData} (b : Bld L H l ds) (hu : H l = some (.lst us)) (h : At (yas H (l :: L)) v d) : Bld L (upd H l (.lst (us ++ [v]))) l (ds ++ [d]) := by
  obtain ⟨us', h1, h2⟩ := b
  rw [hu] at h1; cases h1
  refine ⟨_, yaa, ?_⟩
  rw [qgt List.mem_cons_self]
  exact h2.snoc h
theorem Bld.len {L : List Addr} {H : Hp} {l : Addr} {ds : List PyData} {us : List V} (b : Bld L H l ds) (hu : H l = some (.lst us)) : us.length = ds.length := by
  obtain ⟨us', h1, h2⟩ := b
  rw [hu] at h1; cases h1
  exact h2.length
theorem Bld.at {L : List Addr} {H : Hp} {l : Addr} {ds : List PyData} (b : Bld L H l ds) (h : l ∉ L) : At (yas H L) (.ref l) (.list ds) := by
  obtain ⟨us, h1, h2⟩ := b
  exact .lst (by rw [ybj h]; exact h1) (h2.same (ykf fun b hb => List.mem_cons_of_mem _ hb))
theorem qgs {n : Nat} (h : n ≤ 100000) : n ≤ sizeLine := Nat.le_trans h (by decide)
theorem qc2 {n : Nat} (h : n ≤ 100000) : n < sizeLine := Nat.lt_of_le_of_lt h (by decide)
theorem qaf {α : Type} {xs : List α} {i : Int} {v : α} (j : Nat) (h : xs[j]? = some v) (e : i = (j : Int) := by rfl) : atI xs i = some v := by
  rw [e]; exact qho h
theorem ye4 {α : Type} {xs : List α} {i : Int} {v : α} (h0 : 0 ≤ i) (h : xs[i.toNat]? = some v) : atI xs i = some v := by
  have e : ((i.toNat : Nat) : Int) = i := Int.toNat_of_nonneg h0
  rw [← e]; exact qho h
theorem yds {J : It} {n : Nat} {g : TG} {tt : TT} {te : TE} {ix : List (Option Nat)} {σ : St} {H : Hp} {QD : Hp → Prop} {D : Addr} (Pv : Nat → Hp → Prop) (h0 : Pv 0 (upd H D (.lst []))) (stop : ∀ H', Pv n H' → J.stop n H' ∧ QD H')
    (step : ∀ i H', i < n → Pv i H' → J.go i H' ∧ ∀ x H2, J.yld i H' x H2 → g x (capS ix σ) H2 fun σ2 H3 => qbc (capS ix σ) σ2 ∧ tt σ2 H3 fun b H4 =>
      if b = true then te σ2 H4 fun v H5 => ∃ ys, H5 D = some (.lst ys) ∧ ys.length < sizeLine ∧ Pv (i + 1) (upd H5 D (.lst (ys ++ [v]))) else Pv (i + 1) H4) :
    ∃ W : Nat → Nat → Hp → Prop, (∃ m, W 0 m (upd H D (.lst []))) ∧ ∀ i m H, W i m H →
      (J.stop i H ∧ QD H) ∨ (J.go i H ∧ ∃ N : Hp → Prop, (∀ H', N H' → ∃ m', m' < m ∧ W (i + 1) m' H') ∧ ∀ x H', J.yld i H x H' → g x (capS ix σ) H' fun σ2 H2 => qbc (capS ix σ) σ2 ∧ tt σ2 H2 fun b H3 =>
        if b = true then te σ2 H3 fun v H4 => ∃ ys, H4 D = some (.lst ys) ∧ ys.length < sizeLine ∧ N (upd H4 D (.lst (ys ++ [v]))) else N H3) := by
  refine ⟨fun i m H => m = n - i ∧ i ≤ n ∧ Pv i H, ⟨n, by simp, Nat.zero_le _, h0⟩, ?_⟩
  rintro i m H ⟨rfl, hi, p⟩
  by_cases hlt : i < n
  · obtain ⟨g1, g2⟩ := step i H hlt p
    exact .inr ⟨g1, Pv (i + 1), fun H' p' => ⟨n - (i + 1), by omega, rfl, hlt, p'⟩, g2⟩
  · have e : i = n := by omega
    subst e
    exact .inl (stop H p)
theorem ygd {xs : List V} (k : Nat) : cutV xs none (some (k : Int)) = xs.take k := by
  unfold cutV
  rw [HT.sIx_none, HT.sIx_nat, List.drop_zero, Nat.sub_zero]
  by_cases h : k ≤ xs.length
  · rw [Nat.min_eq_left h]
  · rw [Nat.min_eq_right (by omega), List.take_length, List.take_of_length_le (by omega)]
theorem yeq {xs : List V} (k : Nat) : cutV xs (some (k : Int)) none = xs.drop k := by
  unfold cutV
  rw [HT.sIx_none, HT.sIx_nat]
  by_cases h : k ≤ xs.length
  · rw [Nat.min_eq_left h]
    exact List.take_of_length_le (by rw [List.length_drop]; exact Nat.le_refl _)
  · rw [Nat.min_eq_right (by omega), List.drop_eq_nil_of_le (show xs.length ≤ k by omega), List.drop_length]; simp
theorem yes {σ : St} {H : Hp} {A B : Hp → Prop} (h : A H) : tYes σ H fun b H' => if b = true then A H' else B H' := iteT (B := B H) h
section
variable {X : Cx} {K : PySem.W.Frag}
theorem qf8 (h : X.K = K) : SlR X (rSlL K) := h ▸ yd7
theorem qga (h : X.K = K) : OpR X (compareOp .NotIn) (rIn K true) := h ▸ ygx
theorem qgh {es : List Expr} {k : Nat} {t : TGs} {n : Nat} {pos : Pos} (h : X.K = K) (hc : X.calm = true) (hh : PGs X es t)
    (hn : (assignEach es X.env).length = n := by rfl) (hst : (assignEach es X.env).findIdx? (·.1) = none := by rfl) : PG X (.Tuple es k pos) (gTup K n t) := by
  subst h; exact qf4 hc hh hn hst
end
def rEqD : R2 := fun x y H Q => ∃ dx dy, At H x dx ∧ At H y dy ∧ dx.canLay0 = true ∧ dy.canLay0 = true ∧ dx.depth ≤ 60 ∧ Q (.bl (PyData.eqv dx dy)) H
def rNeD : R2 := fun x y H Q => ∃ dx dy, At H x dx ∧ At H y dy ∧ dx.canLay0 = true ∧ dy.canLay0 = true ∧ dx.depth ≤ 60 ∧ Q (.bl (!PyData.eqv dx dy)) H
section
variable {X : Cx}
theorem op_eqD {k : Nat} (hr : Room k X.A) : OpR X (compareOp .Eq) rEqD := by
  intro pins s σ H x y v u Q I rx ry h
  obtain ⟨dx, dy, h1, h2, c1, c2, hd, q⟩ := h
  obtain ⟨as, r1⟩ := h1.reads I.hok rx
  obtain ⟨bs, r2⟩ := h2.reads I.hok ry
  have hu := hr.units
  exact PySem.SeqAt.rcAt_reads r1 r2 c1 c2 (by have := Nat.min_le_left dx.depth dy.depth; omega) _ _ _ _ ⟨.bl _, H, I, rfl, q⟩
theorem op_neD {k : Nat} (hr : Room k X.A) : OpR X (compareOp .NotEq) rNeD := by
  intro pins s σ H x y v u Q I rx ry h
  obtain ⟨dx, dy, h1, h2, c1, c2, hd, q⟩ := h
  obtain ⟨as, r1⟩ := h1.reads I.hok rx
  obtain ⟨bs, r2⟩ := h2.reads I.hok ry
  have hu := hr.units
  exact PySem.SeqAt.rcNeAt_reads r1 r2 c1 c2 (by have := Nat.min_le_left dx.depth dy.depth; omega) _ _ _ _ ⟨.bl _, H, I, rfl, q⟩
end
theorem qcr {n : Nat} : ∀ {xs : List PyData}, (∀ x ∈ xs, x.depth ≤ n) → PyData.depthAll xs ≤ n
  | [], _ => by simp [PyData.depthAll]
  | x :: xs, h => by
    have h1 := h x List.mem_cons_self
    have h2 := qcr (xs := xs) fun y hy => h y (List.mem_cons_of_mem _ hy)
    simp only [PyData.depthAll]
    omega
theorem yd6 {n : Nat} : ∀ {xs : List PyData}, (∀ x ∈ xs, x.bulk ≤ n) → PyData.bulkAll xs ≤ (n + 1) * xs.length
  | [], _ => by simp [PyData.bulkAll]
  | x :: xs, h => by
    have h1 := h x List.mem_cons_self
    have h2 := yd6 (xs := xs) fun y hy => h y (List.mem_cons_of_mem _ hy)
    simp only [PyData.bulkAll, List.length_cons, Nat.mul_add]
    omega
theorem qdm {B : Nat} : ∀ {xs : List PyData}, (∀ x ∈ xs, x.leavesShort B = true) → PyData.leavesShortAll B xs = true
  | [], _ => by simp [PyData.leavesShortAll]
  | x :: xs, h => by
    simp only [PyData.leavesShortAll, h x List.mem_cons_self, qdm (xs := xs) fun y hy => h y (List.mem_cons_of_mem _ hy), Bool.and_self]
end L2
set_option maxHeartbeats 2000000
namespace L2
open PySem PySem.Spec PyProof.Rows PySem.W
abbrev bmV : List Value := [.type "ValueError", .type "Exception", .type "BaseException", .type "object"]
def qem (K : PySem.W.Frag) (C : Addr) : Bool := match K.lookup C with
  | some ⟨.type "type", _, .cls cd, sl⟩ => (match cd.mro, sl.toList with
    | .ref D :: bm, [_, _, _, _, some (.builtin n), _] => D == C && n == "ValueError.__new__" && !cd.hasDel && cd.hasDict && PySem.W.tailIn K bmV bm
    | _, _ => false)
  | _ => false
theorem yec {K : PySem.W.Frag} {h : Heap} {C : Addr} (X : K.In h) (q : qem K C = true) : ∃ nm qn N bs bm sn sub ab col dd k0 k1 k2 k3 k5,
    h.get? C = some (excClassObj nm qn C N bs bm true sn sub ab col dd k0 k1 k2 k3 k5 "ValueError.__new__") ∧ OwnTail h bmV bm := by
  unfold qem at q
  split at q
  · rename_i dd cd sl ho
    split at q
    · rename_i D bm k0 k1 k2 k3 n k5 hm hs
      simp only [Bool.and_eq_true, beq_iff_eq, Bool.not_eq_true'] at q
      obtain ⟨⟨⟨⟨rfl, rfl⟩, hdel⟩, hdi⟩, ht⟩ := q
      obtain ⟨nm, bs, mro, ns, qn, hd, sn, sub, ab, col, del⟩ := cd
      dsimp only at hm hdel hdi
      subst hm hdel hdi
      obtain ⟨l⟩ := sl
      simp only at hs
      subst hs
      exact ⟨nm, qn, ns, bs, bm, sn, sub, ab, col, dd, k0, k1, k2, k3, k5, X _ _ ho, tail_of_in X ht⟩
    · cases q
  · cases q
section
variable {prog : Program} {w : World} {A : Around} {E : Value → Shared → Prop} {h : Heap} {g : Array GenState} {d : Drawn} {t : Nat} {os : OsState} {K : PySem.W.Frag} {C fI : Addr}
theorem qgw {rest : List Value} {Q : Fin → Shared → Prop} (X : K.In h) (cx : qem K C = true) (hi : PySem.W.findIn K (.ref C) "__init__" = some (some (.ref fI))) (hf : PySem.W.isFn K (.ref fI) = true)
    (hq : ∀ h' e, Heap.MadeExcOf h h' e (.ref C) rest → wpAny (model prog w) A (call (.ref fI) (.ref e :: rest)) (fun r s' => r = .none ∧ Q (.done (.ret (.ref e))) s') E ⟨h', g, d, t, os⟩) (hrest : rest.length ≤ sizeLine) :
    wpAny (model prog w) A (Builtin.«type.__call__» ⟨.ref C :: rest, []⟩) Q E ⟨h, g, d, t, os⟩ := by
  obtain ⟨nm, qn, N, bs, bm, sn, sub, ab, col, dd, k0, k1, k2, k3, k5, cC, T⟩ := yec X cx
  repeat (first | with_reducible refine wpAny_loadPart_at cC ?_ | with_reducible refine wpAny_madeBy_exc cC ?_ | wp_step)
  refine codeAny_call_builtin_code (Code.quiet_builtin _ PySem.F.excBase_ValueError.quiet) (wpAny_check_new_subU PySem.F.excBase_ValueError PySem.F.excBase_ValueError.hasB T cC ?_)
  refine codeAny_exc_new_subU PySem.F.excBase_ValueError PySem.F.excBase_ValueError.hasB PySem.F.excBase_ValueError T cC ?_ hrest
  show wpAny _ _ _ _ _ _
  generalize hp1 : h.push { cls := .type "tuple", data := .seq rest.toArray } = h1
  have kp1 : ∀ b o, h.get? b = some o → h1.get? b = some o := fun b o e => by rw [← hp1]; exact Heap.get?_push_of_some _ e
  have tp1 : h1.get? h.objs.size = some { cls := .type "tuple", data := .seq rest.toArray } := by rw [← hp1]; exact Heap.get?_push_at rfl rfl
  have sz1 : h1.objs.size = h.objs.size + 1 := by rw [← hp1, Heap.size_push]
  generalize hp2 : h1.push { cls := .ref C, data := .fields #[.ref h.objs.size, .none, .none, .none, .bool false, .none] } = h2
  have kp2 : ∀ b o, h.get? b = some o → h2.get? b = some o := fun b o e => by rw [← hp2]; exact Heap.get?_push_of_some _ (kp1 b o e)
  have tp2 : h2.get? h.objs.size = some { cls := .type "tuple", data := .seq rest.toArray } := by rw [← hp2]; exact Heap.get?_push_of_some _ tp1
  have ge2 : h2.get? (h.objs.size + 1) = some { cls := .ref C, data := .fields #[.ref h.objs.size, .none, .none, .none, .bool false, .none] } := by rw [← hp2, ← sz1]; exact Heap.get?_push_size _ rfl
  have X2 : K.In h2 := X.keeps kp2
  have cC2 := kp2 _ _ cC
  have hcC : (Value.ref C :: bm).contains (.ref C) = true := by simp
  unfold isInstance
  repeat (first | with_reducible refine wpAny_loadPart_at ge2 ?_ | (with_reducible refine wpAny_isSubtype_exc cC2 ?_; rw [hcC]) | wp_step)
  show wpAny _ _ (typeLookup (.ref C) _) _ _ _
  refine (looks_findIn X2 hi).here ?_
  refine wpAny_holding (wpAny_bind ((bind_fn X2 (.ref (h.objs.size + 1)) (beq_iff_eq.mp hf)).here ?_))
  refine wpAny_bind (wpAny_mono (hq h2 (h.objs.size + 1) ⟨kp2, Heap.get?_none_of_le (Nat.le_succ _), h.objs.size, ge2, Heap.get?_none_of_le (Nat.le_refl _), tp2⟩) (fun r s' hr => ?_) fun _ _ z => z)
  obtain ⟨rfl, hQ⟩ := hr
  wp_walk
  exact hQ
theorem xc_call {rest : List Value} {Q : Value → Shared → Prop} (X : K.In h) (cx : qem K C = true) (hi : PySem.W.findIn K (.ref C) "__init__" = some (some (.ref fI))) (hf : PySem.W.isFn K (.ref fI) = true)
    (hq : ∀ h' e, Heap.MadeExcOf h h' e (.ref C) rest → wpAny (model prog w) (A.under (.builtin "type.__call__" ⟨.ref C :: rest, []⟩)) (call (.ref fI) (.ref e :: rest)) (fun r s' => r = .none ∧ Q (.ref e) s') E ⟨h', g, d, t, os⟩) (hrest : rest.length ≤ sizeLine) :
    wpAny (model prog w) A (call (.ref C) rest) Q E ⟨h, g, d, t, os⟩ := by
  obtain ⟨nm, qn, N, bs, bm, sn, sub, ab, col, dd, k0, k1, k2, k3, k5, cC, T⟩ := yec X cx
  have g1 := tc_lookup
  have g2 := tc_bind (.ref C)
  have gT : (⟨h, g, d, t, os⟩ : Shared).TypeIs (.ref C) "type" := ⟨_, cC, rfl⟩
  refine wpAny_call (codeAny_of_tree ?_)
  show wpAny _ _ (callAny (.ref C) _) _ _ _
  repeat (any_goals (first | assumption | with_reducible refine wpAny_loadPart_at cC ?_ | wp_step))
  refine ⟨rfl, codeAny_call_builtin_at (Code.quiet_builtin _ (by decide +kernel)) entry_typeCall (wpAny_check_type_call_sub cC (qgw X cx hi hf (fun h' e hm => hq h' e hm) hrest))⟩
theorem xc_call0 {rest : List Value} {Q : Value → Shared → Prop} (X : K.In h) (q : PySem.W.excIn K C bmV "ValueError.__new__" = true) (hq : ∀ h' e, Heap.MadeExcOf h h' e (.ref C) rest → Q (.ref e) ⟨h', g, d, t, os⟩) (hrest : rest.length ≤ sizeLine) :
    wpAny (model prog w) A (call (.ref C) rest) Q E ⟨h, g, d, t, os⟩ := by
  unfold PySem.W.excIn at q
  split at q
  · rename_i dd cd sl ho
    split at q
    · rename_i C' bm k0 k1 k2 k3 n k5 hm hs
      simp only [Bool.and_eq_true, beq_iff_eq, Bool.not_eq_true'] at q
      obtain ⟨⟨⟨⟨⟨rfl, rfl⟩, hdel⟩, ht⟩, hok⟩, hni⟩ := q
      obtain ⟨nm, bs, mro, ns, qn, hd, sn, sub, ab, col, del⟩ := cd
      dsimp only at hm hdel hok hni
      subst hm hdel
      obtain ⟨l⟩ := sl
      simp only at hs
      subst hs
      exact wpAny_call_exc_subU PySem.F.excBase_ValueError PySem.F.excBase_ValueError.hasB PySem.F.excBase_ValueError (tail_of_in X ht) (X _ _ ho) (.of_isNs (isNs_of_in X hok)) (nsMap_none_of_in X hok hni) hq hrest
    · cases q
  · cases q
end
theorem yhj {h : Heap} {bm : List Value} (T : OwnTail h bmV bm) (self : Value) : refuseLoop self "__setattr__" bm = pure () := by
  induction T with
  | base => exact PySem.F.store_ValueError.passes self
  | own _ _ _ _ ih => rw [refuseLoop_ref]; exact ih
section
variable {prog : Program} {w : World} {A : Around} {E : Value → Shared → Prop} {h : Heap} {g : Array GenState} {d : Drawn} {t : Nat} {os : OsState} {K : PySem.W.Frag} {C x : Addr} {mA : Str → Option Value} {name : Str} {v : Value}
theorem yho {M : Model} {o : Obj} {nameV : Value} {Q : Unit → Shared → Prop} (X : K.In h) (cx : qem K C = true) (hx : h.get? x = some o) (hc : o.cls = .ref C) (hq : Q () ⟨h, g, d, t, os⟩) :
    wpAny M A (checkBuiltinCall "object.__setattr__" ⟨[.ref x, nameV, v], []⟩) Q E ⟨h, g, d, t, os⟩ := by
  obtain ⟨nm, qn, N, bs, bm, sn, sub, ab, col, dd, k0, k1, k2, k3, k5, cC, T⟩ := yec X cx
  have SF := PySem.F.store_ValueError
  have hob : (Value.ref C :: bm).contains (.type "object") = true := by rw [List.contains_cons, T.hasType SF.hasOwner, Bool.or_true]
  have hargs := SF.args (.ref x) nameV v
  simp only [checkBuiltinCall, SF.kind, SF.split]
  refine wpAny_bind ?_
  unfold isInstance
  repeat (first | (with_reducible refine wpAny_loadPart_at hx ?_; rw [hc]) | (with_reducible refine wpAny_isSubtype_exc cC ?_; rw [hob]) | wp_step)
  exact hq
theorem qfr {tk : Tok} {Q : Fin → Shared → Prop} {ns : List Str} (X : K.In h) (cx : qem K C = true) (hna : PySem.W.findIn K (.ref C) name = some none) (I : h.Inst x C mA)
    (hq : ∀ h' tk', h'.Inst x C (fun y => if y = name then some v else mA y) →
      (∀ b o, b ≠ x → (∀ o0 dx, h.get? x = some o0 → o0.dict = some dx → b ≠ dx) → h.get? b = some o → h'.get? b = some o) →
      (∀ o0, h.get? x = some o0 → ∃ o1, h'.get? x = some o1 ∧ o1.cls = o0.cls ∧ o1.data = o0.data ∧ (∀ dx, o0.dict = some dx → o1.dict = some dx) ∧ (o0.dict = none → o1.dict = some h.objs.size)) → Q (.done (.ret .none)) ⟨h', g, d, tk', os⟩)
    (hw : Within mA ns) (hsz : ns.length + 1 ≤ sizeLine) :
    wpAny (model prog w) A (Builtin.«object.__setattr__» ⟨[.ref x, .str name tk, v], []⟩) Q E ⟨h, g, d, t, os⟩ := by
  obtain ⟨nm, qn, N, bs, bm, sn, sub, ab, col, dd, k0, k1, k2, k3, k5, cC, T⟩ := yec X cx
  obtain ⟨o, hx, hc, hnc, hd⟩ := I
  have hpass := yhj T (.ref x)
  unfold Builtin.«object.__setattr__»
  repeat (first | rw [refuse_eq] | (rw [refuseLoop_ref, hpass]) | (with_reducible refine wpAny_loadPart_at hx ?_; rw [hc]) | with_reducible refine wpAny_mroOf_exc cC ?_ | with_reducible refine (looks_findIn X hna).here ?_ | wp_step)
  have put : ∀ (dx : Addr) (h1 : Heap) (mB : Str → Option Value) (ms : List Str), h1.Ns1 dx mB → Within mB ms → ms.length + 1 ≤ sizeLine →
      (∀ h' tk', h'.Ns1 dx (fun y => if y = name then some v else mB y) → Heap.SameBut dx h1 h' → Q (.done (.ret .none)) ⟨h', g, d, tk', os⟩) →
      wpAny (model prog w) A (Builtin.ObjectAttr.storeInDict dx (.str name tk) name v) Q E ⟨h1, g, d, t, os⟩ := fun dx h1 mB ms n1 wi le fin => by
    unfold Builtin.ObjectAttr.storeInDict Builtin.ObjectAttr.newKeyGuard
    refine wpAny_bind (wpAny_pure (wpAny_bind (wpAny_nsSet1 n1 fun h' n2 sb => ?_)))
    obtain ⟨oD, eD, pD, oE, dE, cE⟩ := n2.count (Within.cons name v wi)
    refine wpAny_bind (wpAny_lookBehind oE (by rw [dE]; exact pastItsLine_dict (Nat.le_trans cE (by rw [List.length_cons]; omega))) ?_)
    wp_walk
    exact fin h' _ n2 sb
  rcases hd with ⟨hdn, hmA⟩ | ⟨dx, hdx, hne, hns⟩
  · rw [hdn]
    have hif : ¬ ((!true || !typeHasDict (Value.ref C)) = true) := by simp [typeHasDict]
    show wpAny _ _ (if (!true || !typeHasDict (Value.ref C)) = true then _ else _) _ _ _
    rw [if_neg hif]
    have hxs : x ≠ h.objs.size := Nat.ne_of_lt (Heap.lt_size hx)
    have px : (h.push { cls := .type "dict", data := .dict #[] }).get? x = some o := Heap.get?_push_of_some _ hx
    split
    · rename_i c hcd
      exact absurd hcd (hnc c)
    · refine wpAny_bind (wpAny_alloc' (wpAny_bind (wpAny_update' px (wpAny_pure ?_))))
      have dg : ((h.push { cls := .type "dict", data := .dict #[] }).update x fun o => { cls := o.cls, dict := some h.objs.size, data := o.data, slots := o.slots }).get? h.objs.size = some { cls := .type "dict", data := .dict #[] } :=
        (Heap.get?_update_ne _ _ _ _ hxs.symm).trans (Heap.get?_push_at rfl rfl)
      have dn : ((h.push { cls := .type "dict", data := .dict #[] }).update x fun o => { cls := o.cls, dict := some h.objs.size, data := o.data, slots := o.slots }).Ns h.objs.size (fun _ => none) :=
        ⟨_, #[], _, dg, rfl, (by intro e he; exact absurd he (by simp)), fun _ => rfl⟩
      refine put h.objs.size _ _ [] (Heap.Ns1.of_empty dn) Within.nil (by rw [sizeLine_eq]; decide) fun h' tk' n2 sb => ?_
      have gx : h'.get? x = some { cls := o.cls, dict := some h.objs.size, data := o.data, slots := o.slots } := by
        refine (sb.2 x hxs).trans (Heap.get?_update_self _ px ?_)
        have fr := (Heap.get?_some_iff.mp hx).2
        obtain ⟨oc, od, odt, osl⟩ := o
        cases odt <;> first | rfl | exact fr
      refine hq h' tk' ⟨_, gx, hc, hnc, .inr ⟨h.objs.size, rfl, hxs.symm, ?_⟩⟩ (fun b ob hbx _ hb => ?_) (fun o0 e0 => ?_)
      · have em : (fun y => if y = name then some v else mA y) = (fun y => if y = name then some v else (none : Option Value)) := by
          funext y
          by_cases hy : y = name
          · simp [hy]
          · simp [hy, hmA y]
        rw [em]; exact n2
      · exact (sb.2 b (Nat.ne_of_lt (Heap.lt_size hb))).trans ((Heap.get?_update_ne _ _ _ _ hbx).trans (Heap.get?_push_of_some _ hb))
      · rw [hx] at e0; cases e0
        exact ⟨_, gx, rfl, rfl, (by intro dx e; rw [hdn] at e; cases e), fun _ => rfl⟩
  · rw [hdx]
    refine wpAny_pure ?_
    refine put dx h mA ns hns hw hsz fun h' tk' n2 sb => ?_
    refine hq h' tk' ⟨o, (sb.2 x hne.symm).trans hx, hc, hnc, .inr ⟨dx, hdx, hne, n2⟩⟩ (fun b ob _ hbd hb => (sb.2 b (hbd o dx hx hdx)).trans hb) (fun o0 e0 => ⟨o0, (sb.2 x hne.symm).trans e0, rfl, rfl, fun _ e => e, fun e => ?_⟩)
    rw [hx] at e0; cases e0
    rw [hdx] at e; cases e
theorem xc_store {Q : Unit → Shared → Prop} {ns : List Str} (X : K.In h) (cx : qem K C = true) (hsa : PySem.W.findIn K (.ref C) "__setattr__" = some (some (.builtin "object.__setattr__"))) (hna : PySem.W.findIn K (.ref C) name = some none) (I : h.Inst x C mA)
    (hq : ∀ h' tk', h'.Inst x C (fun y => if y = name then some v else mA y) →
      (∀ b o, b ≠ x → (∀ o0 dx, h.get? x = some o0 → o0.dict = some dx → b ≠ dx) → h.get? b = some o → h'.get? b = some o) →
      (∀ o0, h.get? x = some o0 → ∃ o1, h'.get? x = some o1 ∧ o1.cls = o0.cls ∧ o1.data = o0.data ∧ (∀ dx, o0.dict = some dx → o1.dict = some dx) ∧ (o0.dict = none → o1.dict = some h.objs.size)) → Q () ⟨h', g, d, tk', os⟩)
    (hw : Within mA ns) (hsz : ns.length + 1 ≤ sizeLine) : wpAny (model prog w) A (setAttr (.ref x) name v) Q E ⟨h, g, d, t, os⟩ := by
  obtain ⟨o, hx, hc, _⟩ := id I
  have SF := PySem.F.store_ValueError
  have b3 := SF.slot.bind (.ref x)
  unfold setAttr callSpecial? specialOf
  repeat (any_goals (first | assumption | (with_reducible refine wpAny_loadPart_at hx ?_; rw [hc]) | with_reducible refine (looks_findIn X hsa).here ?_ | wp_step))
  refine codeAny_call_builtin SF.slot.plain SF.entry (yho X cx hx hc (qfr X cx hna I (fun h' tk' I' hk hsame => ?_) hw hsz))
  repeat (any_goals (first | assumption | wp_step))
  exact hq h' tk' I' hk hsame
end
section
variable {prog : Program} {w : World} {A : Around} {E : Value → Shared → Prop} {h : Heap} {g : Array GenState} {d : Drawn} {t : Nat} {os : OsState} {K : PySem.W.Frag} {C x : Addr} {mA : Str → Option Value} {name : Str} {v : Value}
theorem qhw {M : Model} {o : Obj} {nameV : Value} {Q : Unit → Shared → Prop} (X : K.In h) (cx : qem K C = true) (hx : h.get? x = some o) (hc : o.cls = .ref C) (hq : Q () ⟨h, g, d, t, os⟩) :
    wpAny M A (checkBuiltinCall "BaseException.__getattribute__" ⟨[.ref x, nameV], []⟩) Q E ⟨h, g, d, t, os⟩ := by
  obtain ⟨nm, qn, N, bs, bm, sn, sub, ab, col, dd, k0, k1, k2, k3, k5, cC, T⟩ := yec X cx
  have kd : builtinKind "BaseException.__getattribute__" = some .slot := by decide +kernel
  have sp : splitId "BaseException.__getattribute__" = some ("BaseException", "__getattribute__") := by decide +kernel
  have hob : (Value.ref C :: bm).contains (.type "BaseException") = true := by rw [List.contains_cons, T.hasType PySem.F.excBase_ValueError.hasBase]; rfl
  have ar := PySem.F.args_bexc_ga (.ref x) nameV
  simp only [checkBuiltinCall, kd, sp]
  refine wpAny_bind ?_
  unfold isInstance
  repeat (first | (with_reducible refine wpAny_loadPart_at hx ?_; rw [hc]) | (with_reducible refine wpAny_isSubtype_exc cC ?_; rw [hob]) | wp_step)
  exact hq
end
structure XTy (K : PySem.W.Frag) (C : Addr) : Prop where
  cx : qem K C = true
  ga : PySem.W.findIn K (.ref C) "__getattribute__" = some (some (.builtin "BaseException.__getattribute__"))
  gh : PySem.W.findIn K (.ref C) "__getattr__" = some none
  hc : (PySem.W.clsIn K C).isSome = true
  ha : PySem.W.findIn K (.ref C) "__class__" = some (some (.builtin "object.__class__"))
  hn : PySem.W.specialIn K (.builtin "object.__class__") "__get__" = some (some (.builtin "getset_descriptor.__get__"))
  tk : PySem.W.takesIn K (.builtin "object.__class__") = some true
  hm : PySem.W.mroIn K C (.type "object") = some true
section
variable {prog : Program} {w : World} {A : Around} {E : Value → Shared → Prop} {s : Shared} {K : PySem.W.Frag} {x C : Addr} {ox : Obj} {od : Option Obj}
theorem XTy.find (T : XTy K C) : PySem.W.findObj K C od "__class__" = some (.bind (.builtin "getset_descriptor.__get__") (.builtin "object.__class__")) := by
  obtain ⟨cd, hc⟩ := Option.isSome_iff_exists.mp T.hc
  unfold PySem.W.findObj
  rw [hc, Option.bind_some, T.ha, Option.bind_some]
  simp [T.hn, T.tk]
theorem xc_class {Q : Option Value → Shared → Prop} (X : K.In s.heap) (T : XTy K C) (I : PySem.W.InstAt s.heap x ox C od) (q : Q (some (.ref C)) { s with toks := s.toks + 1 }) : wpAny (model prog w) A (getAttr? (.ref x) "__class__") Q E s := by
  obtain ⟨h, g, d, t, os⟩ := s
  replace X : K.In h := X
  replace I : PySem.W.InstAt h x ox C od := I
  have FV := PySem.F.excAttr_ValueError
  have q3 := FV.ga.bind (.ref x)
  have e0 : (false && onTheHeap (Value.builtin "BaseException.__getattribute__")) = false := rfl
  have hx := I.at_
  have hc := I.cls
  have e2 : (Value.builtin "BaseException.__getattribute__" == Value.builtin "object.__getattribute__") = false := by decide +kernel
  have e1 : (onTheHeap (Value.ref C) && Value.builtin "BaseException.__getattribute__" == Value.builtin "object.__getattribute__") = false := by rw [e2]; rfl
  unfold getAttr? getAttrBy? getAttrBy
  repeat (any_goals (first | assumption | (with_reducible refine wpAny_loadPart_at hx ?_; rw [hc]) | with_reducible refine (looks_findIn X T.ga).here ?_ | with_reducible refine (looks_findIn X T.gh).here ?_ | wp_step))
  refine codeAny_call_builtin FV.ga.plain PySem.F.entry_bexc_ga (qhw X T.cx hx hc ?_)
  unfold Builtin.«object.__getattribute__»
  repeat (any_goals (first | assumption | (with_reducible refine wpAny_loadPart_at hx ?_; rw [hc]) | with_reducible refine (looks_find X I T.find).here ?_ | wp_step))
  refine class_get (s := ⟨h, g, d, t + 1, os⟩) X I T.hm ?_
  show wpAny _ _ (ret (.ref C)) _ _ _
  refine wpAny_pure ?_
  show wpAny _ _ (handedOut (.ref C)) _ _ _
  exact handed_on rfl (wpAny_pure q)
theorem kitx_xc (T : XTy K C) : KitX K (.ref x) (.ref C) (fun h => ∃ ox od, PySem.W.InstAt h x ox C od) where
  ty := fun _ _ _ ⟨_, _, I⟩ => I.type
  it := fun _ _ X _ => by
    obtain ⟨cd, hc⟩ := Option.isSome_iff_exists.mp T.hc
    unfold PySem.W.clsIn at hc
    split at hc
    · rename_i c' d' cd' sl' ho
      intro A' Q' E' s' k q
      unfold isType loadHead
      exact wpAny_bind (wpAny_loadPart (k _ _ (X _ _ ho)) (wpAny_pure q))
    · cases hc
  ne := fun h tp dd its n sl X htp => by
    obtain ⟨cd, hc⟩ := Option.isSome_iff_exists.mp T.hc
    refine Bool.eq_false_iff.mpr fun q => ?_
    have e : C = tp := Value.ref.inj (beq_iff_eq.mp q)
    subst e
    unfold PySem.W.clsIn at hc
    split at hc
    · rename_i c' d' cd' sl' ho
      have z := (X _ _ ho).symm.trans htp
      cases z
    · cases hc
  ca := fun X ⟨_, _, I⟩ k => xc_class X T I k
end
section
variable {X : Cx} {pins : List (Addr × Obj)} {σ : St} {H : Hp} {s : Shared} {h' : Heap} {a d : Addr} {oA oD : HO}
theorem Inv.two {t' : Nat} (I : Inv X pins σ H s) (ma : Mut (H a)) (md : Mut (H d) ∨ s.heap.objs.size ≤ d) (hne : d ≠ a) (k : ∀ b u, b ≠ a → b ≠ d → s.heap.get? b = some u → h'.get? b = some u) (ta : ∃ u, h'.get? a = some u) (td : ∃ u, h'.get? d = some u)
    (na : qbj X.prog X.w (upd (upd H d oD) a oA) h' a oA) (nd : qbj X.prog X.w (upd (upd H d oD) a oA) h' d oD) : Inv X pins σ (upd (upd H d oD) a oA) { s with heap := h', toks := t' } := by
  have up : ∀ b, b ≠ a → b ≠ d → upd (upd H d oD) a oA b = H b := fun b h1 h2 => by rw [qag h1, qag h2]
  have na0 : ∀ b, H b = none → b ≠ a := fun b n z => by subst z; rw [n] at ma; exact ma
  have nd0 : ∀ b u, s.heap.get? b = some u → H b = none → b ≠ d := fun b u e n z => by
    subst z
    rcases md with md | md
    · rw [n] at md; exact md
    · exact absurd (Nat.lt_of_lt_of_le (Heap.lt_size e) md) (Nat.lt_irrefl _)
  have ms : ∀ b u, H b = some u → ¬ Mut (some u) → b ≠ a ∧ b ≠ d := fun b u e nm => by
    refine ⟨?_, ?_⟩
    · rintro rfl; rw [e] at ma; exact nm ma
    · rintro rfl
      rcases md with md | md
      · rw [e] at md; exact nm md
      · have := I.hok.fresh md; rw [e] at this; cases this
  refine I.un ⟨fun b u e n _ _ => k b u (na0 b n) (nd0 b u e n) e, fun b u e n _ _ => ⟨u.slots, k b u (na0 b n) (nd0 b u e n) e⟩, fun b u e n _ => by rw [up b (na0 b n) (nd0 b u e n)]; exact n, fun b u e _ => ?_,
    fun b xs e => ?_, fun b u xs e => ?_, fun b ps e => ⟨#[], ?_⟩⟩ (fun b u e => ?_)
  · by_cases h1 : b = a
    · subst h1; exact ta
    · by_cases h2 : b = d
      · subst h2; exact td
      · exact ⟨u, k b u h1 h2 e⟩
  · obtain ⟨h1, h2⟩ := ms b _ e fun z => z
    rw [up b h1 h2]; exact e
  · obtain ⟨h1, h2⟩ := ms b _ e fun z => z
    rw [up b h1 h2]; exact e
  · obtain ⟨h1, h2⟩ := ms b _ e fun z => z
    rw [up b h1 h2, e]; simp
  · by_cases h1 : b = a
    · subst h1; rw [yaa] at e; cases e; exact na
    · by_cases h2 : b = d
      · subst h2; rw [qag h1, yaa] at e; cases e; exact nd
      · rw [up b h1 h2] at e
        refine (I.hok b u e).stay (fun c v hc q => ?_) (fun c q => ?_) fun c xs q => ?_
        · rcases hc with rfl | hc
          · exact k _ _ h1 h2 q
          · obtain ⟨h3, h4⟩ := ms c _ hc fun z => z
            exact k _ _ h3 h4 q
        · obtain ⟨h3, h4⟩ := ms c _ q fun z => z
          rw [up c h3 h4]; exact q
        · obtain ⟨h3, h4⟩ := ms c _ q fun z => z
          rw [up c h3 h4]; exact q
def qce (a C : Addr) (dx : Option Addr) : Heap → Prop := fun h => ∃ o vs, h.get? a = some o ∧ o.cls = .ref C ∧ o.dict = dx ∧ o.data = .fields vs
def yb5 (a C : Addr) (dx : Option Addr) : Heap → Prop := fun h => ∃ o vs, h.get? a = some o ∧ o.cls = .ref C ∧ o.dict = dx ∧ o.data = .fields vs ∧ vs[1]? = some .none
theorem yb5.q {a C : Addr} {dx : Option Addr} {h : Heap} (x : yb5 a C dx h) : qce a C dx h := by
  obtain ⟨o, vs, e, c, d, dt, _⟩ := x
  exact ⟨o, vs, e, c, d, dt⟩
def ygj (a d : Addr) (fs : List (Str × V)) : Heap → Prop := fun h => d ≠ a ∧ fs.length ≤ 100 ∧ ∃ mA, h.Ns1 d mA ∧ (∀ f, RelO (fs.lookup f) (mA f)) ∧ PySem.Within mA (fs.map (·.1))
def XAt (H : Hp) (a C : Addr) (fs : List (Str × V)) : Prop := (fs = [] ∧ H a = some (.ext (yb5 a C none))) ∨ (∃ d, H a = some (.ext (yb5 a C (some d))) ∧ H d = some (.ext (ygj a d fs))) ∨
  (fs = [] ∧ H a = some (.ext (qce a C none))) ∨ (∃ d, H a = some (.ext (qce a C (some d))) ∧ H d = some (.ext (ygj a d fs)))
theorem XAt.obj {P : Program} {w : World} {H : Hp} {h : Heap} {a C : Addr} {fs : List (Str × V)} (ok : HOk P w H h) (x : XAt H a C fs) : (fs = [] ∧ qce a C none h) ∨ ∃ d, qce a C (some d) h ∧ ygj a d fs h := by
  rcases x with ⟨e, h1⟩ | ⟨d, h1, h2⟩ | ⟨e, h1⟩ | ⟨d, h1, h2⟩
  · exact .inl ⟨e, (ok a _ h1).1.q⟩
  · exact .inr ⟨d, (ok a _ h1).1.q, (ok d _ h2).1⟩
  · exact .inl ⟨e, (ok a _ h1).1⟩
  · exact .inr ⟨d, (ok a _ h1).1, (ok d _ h2).1⟩
theorem qh4 {P : Program} {w : World} {H : Hp} {h : Heap} {a C : Addr} {dx : Option Addr} (x : qce a C dx h) : qbj P w H h a (.ext (qce a C dx)) := by
  obtain ⟨o, vs, e, r⟩ := x
  exact ⟨⟨o, vs, e, r⟩, ⟨o, e⟩, fun h1 h2 ⟨o, vs, e, r⟩ k => ⟨o, vs, k o e, r⟩⟩
theorem qhl {P : Program} {w : World} {H : Hp} {h : Heap} {a C : Addr} {dx : Option Addr} (x : yb5 a C dx h) : qbj P w H h a (.ext (yb5 a C dx)) := by
  obtain ⟨o, vs, e, r⟩ := x
  exact ⟨⟨o, vs, e, r⟩, ⟨o, e⟩, fun h1 h2 ⟨o, vs, e, r⟩ k => ⟨o, vs, k o e, r⟩⟩
theorem qjk {P : Program} {w : World} {H : Hp} {h : Heap} {a d : Addr} {fs : List (Str × V)} (x : ygj a d fs h) : qbj P w H h d (.ext (ygj a d fs)) := by
  obtain ⟨n, l, mA, ⟨o, es, ep, e, r⟩, r2⟩ := id x
  exact ⟨x, ⟨o, e⟩, fun h1 h2 ⟨n, l, mA, ⟨o, es, ep, e, r⟩, r2⟩ k => ⟨n, l, mA, ⟨o, es, ep, k o e, r⟩, r2⟩⟩
theorem XAt.inst {C : Addr} {fs : List (Str × V)} (x : XAt H a C fs) (I : Inv X pins σ H s) : ∃ mA, s.heap.Inst a C mA ∧ (∀ f, RelO (fs.lookup f) (mA f)) ∧ PySem.Within mA (fs.map (·.1)) ∧ fs.length ≤ 100 := by
  rcases x.obj I.hok with ⟨rfl, o, vs, e, c, dn, dt⟩ | ⟨d, ⟨o, vs, e, c, dn, dt⟩, n, l, mA, n1, r, wi⟩
  · exact ⟨fun _ => none, ⟨o, e, c, (by intro c z; rw [dt] at z; cases z), .inl ⟨dn, fun _ => rfl⟩⟩, fun f => trivial, PySem.Within.nil, by simp⟩
  · exact ⟨mA, ⟨o, e, c, (by intro c z; rw [dt] at z; cases z), .inr ⟨d, dn, n, n1⟩⟩, r, wi, l⟩
end
theorem XAt.same {H H' : Hp} {a C : Addr} {fs : List (Str × V)} (s : ∀ b o, H b = some o → H' b = some o) (x : XAt H a C fs) : XAt H' a C fs := by
  rcases x with ⟨e, h1⟩ | ⟨d, h1, h2⟩ | ⟨e, h1⟩ | ⟨d, h1, h2⟩
  · exact .inl ⟨e, s _ _ h1⟩
  · exact .inr (.inl ⟨d, s _ _ h1, s _ _ h2⟩)
  · exact .inr (.inr (.inl ⟨e, s _ _ h1⟩))
  · exact .inr (.inr (.inr ⟨d, s _ _ h1, s _ _ h2⟩))
structure XOk (K : PySem.W.Frag) (C : Addr) : Prop extends XTy K C where
  sa : PySem.W.findIn K (.ref C) "__setattr__" = some (some (.builtin "object.__setattr__"))
def NoF (K : PySem.W.Frag) (C : Addr) (f : Str) : Prop := PySem.W.findIn K (.ref C) f = some none
def XD (H : Hp) (a C : Addr) (dx : Option Addr) (fs : List (Str × V)) : Prop := (dx = none ∧ fs = [] ∧ H a = some (.ext (yb5 a C none))) ∨ ∃ d, dx = some d ∧ H a = some (.ext (yb5 a C (some d))) ∧ H d = some (.ext (ygj a d fs))
theorem XD.xat {H : Hp} {a C : Addr} {dx : Option Addr} {fs : List (Str × V)} (x : XD H a C dx fs) : XAt H a C fs := by
  rcases x with ⟨_, e, h⟩ | ⟨d, _, h1, h2⟩
  · exact .inl ⟨e, h⟩
  · exact .inr (.inl ⟨d, h1, h2⟩)
structure SetX (a d : Addr) (dx : Option Addr) (H H' : Hp) : Prop where
  dd : dx = some d ∨ (dx = none ∧ H d = none)
  kp : ∀ b o, H b = some o → b ≠ a → b ≠ d → H' b = some o
section
variable {X : Cx} {pins : List (Addr × Obj)} {σ : St} {H : Hp} {s : Shared} {a C : Addr} {dx : Option Addr} {fs : List (Str × V)} {f : Str} {v : V} {u : Value}
theorem yjr {d : Addr} {h' : Heap} {mA : Str → Option Value} (hne : d ≠ a) (hl : fs.length < 100) (n1 : h'.Ns1 d fun y => if y = f then some u else mA y) (r : ∀ g, RelO (fs.lookup g) (mA g)) (wi : PySem.Within mA (fs.map (·.1))) (rv : RelV v u) : ygj a d (putF f v fs) h' := by
  refine ⟨hne, by have := qdn f v fs; omega, _, n1, fun g => ?_, fun g hg => ?_⟩
  · rw [ydp]
    by_cases q : g = f
    · simp only [q, if_true]; exact rv
    · simp only [q, if_false]; exact r g
  · by_cases q : g = f
    · subst q; exact (qda g v fs).1
    · exact (qda f v fs).2 g (wi g fun z => hg (by simp only [q, if_false]; exact z))
theorem setx_ok {E : Value → Shared → Prop} {Q : Unit → Shared → Prop} (I : Inv X pins σ H s) (x : XD H a C dx fs) (c : XOk X.K C) (n : NoF X.K C f) (hl : fs.length < 100) (rv : RelV v u)
    (k : ∀ d H' s', Inv X pins σ H' s' → XD H' a C (some d) (putF f v fs) → SetX a d dx H H' → Q () s') : wpAny (model X.prog X.w) X.A (setAttr (.ref a) f u) Q E s := by
  obtain ⟨mA, inst, r, wi, l⟩ := x.xat.inst I
  have kin := I.kIn
  obtain ⟨hh, g, dr, t, os⟩ := s
  refine xc_store kin c.cx c.sa n inst (fun h' tk' inst' keep same => ?_) wi (by rw [List.length_map, sizeLine_eq]; omega)
  rcases x with ⟨rfl, rfl, h1⟩ | ⟨d, rfl, h1, h2⟩
  · obtain ⟨⟨o, vs, e, cc, dn, dt, rw1⟩, _⟩ := I.hok a _ h1
    obtain ⟨o1, e1, c1, d1, _, dd1⟩ := same o e
    have dd := dd1 dn
    obtain ⟨o2, e2, _, _, ⟨z, _⟩ | ⟨d2, z, ne2, n2⟩⟩ := inst'
    · rw [e1] at e2; cases e2; rw [dd] at z; cases z
    · rw [e1] at e2; cases e2
      rw [dd] at z; cases z
      have fr : H hh.objs.size = none := I.hok.fresh (Nat.le_refl _)
      have px := yjr (a := a) (v := v) ne2 hl n2 r wi rv
      have po : yb5 a C (some hh.objs.size) h' := ⟨o1, vs, e1, c1.trans cc, dd, d1.trans dt, rw1⟩
      refine k hh.objs.size (upd (upd H hh.objs.size (.ext (ygj a hh.objs.size (putF f v [])))) a (.ext (yb5 a C (some hh.objs.size)))) _ (Inv.two I (by rw [h1]; exact True.intro) (.inr (Nat.le_refl _)) ne2 (fun b ob hb hb2 q => keep b ob hb (fun o0 dx q0 q1 => ?_) q) ⟨_, e1⟩ (let ⟨o, _, _, q, _⟩ := n2; ⟨o, q⟩) (qhl po) (qjk px)) (.inr ⟨_, rfl, yaa, by rw [qag ne2]; exact yaa⟩) ⟨.inr ⟨rfl, fr⟩, fun b o hb hba _ => ?_⟩
      · have q0' : hh.get? a = some o0 := q0
        have e' : hh.get? a = some o := e
        rw [e'] at q0'; cases q0'
        rw [dn] at q1; cases q1
      · rw [qag hba, qag (yah hb fr)]; exact hb
  · obtain ⟨⟨o, vs, e, cc, dn, dt, rw1⟩, _⟩ := I.hok a _ h1
    obtain ⟨o1, e1, c1, d1, dd1, _⟩ := same o e
    have dd := dd1 d dn
    obtain ⟨⟨ne0, _⟩, _⟩ := I.hok d _ h2
    obtain ⟨o2, e2, _, _, ⟨z, _⟩ | ⟨d2, z, ne2, n2⟩⟩ := inst'
    · rw [e1] at e2; cases e2; rw [dd] at z; cases z
    · rw [e1] at e2; cases e2
      rw [dd] at z; cases z
      have px := yjr (a := a) (v := v) ne2 hl n2 r wi rv
      have po : yb5 a C (some d) h' := ⟨o1, vs, e1, c1.trans cc, dd, d1.trans dt, rw1⟩
      refine k d (upd (upd H d (.ext (ygj a d (putF f v fs)))) a (.ext (yb5 a C (some d)))) _ (Inv.two I (by rw [h1]; exact True.intro) (.inl (by rw [h2]; exact True.intro)) ne2 (fun b ob hb hb2 q => keep b ob hb (fun o0 dx q0 q1 => ?_) q) ⟨_, e1⟩ (let ⟨o, _, _, q, _⟩ := n2; ⟨o, q⟩) (qhl po) (qjk px)) (.inr ⟨_, rfl, yaa, by rw [qag ne2]; exact yaa⟩) ⟨.inl rfl, fun b o hb hba hbd => ?_⟩
      · have q0' : hh.get? a = some o0 := q0
        have e' : hh.get? a = some o := e
        rw [e'] at q0'; cases q0'
        rw [dn] at q1; cases q1
        exact hb2
      · rw [qag hba, qag hbd]; exact hb
variable {o e value : Expr} {pos pos' p : Pos} {ta tv : TE}
def sXFld (K : PySem.W.Frag) (ta tv : TE) (f : Str) : TS := fun D σ H => tv σ H fun y H1 => ta σ H1 fun x H2 => ∃ a C dx fs, x = .ref a ∧ XD H2 a C dx fs ∧ XOk K C ∧ NoF K C f ∧ fs.length < 100 ∧ ∀ d H3, XD H3 a C (some d) (putF f y fs) → SetX a d dx H2 H3 → D.nx σ H3
theorem ps_xfld (ha : PE X o ta) (hv : PE X value tv) (hs : swapsWith value (some (.Attribute o f pos')) pos.line X.env = pure false := by rfl) : PS X (.Assign [.Attribute o f pos'] value pos) (sXFld X.K ta tv f) := by
  intro pins s σ H D I h
  refine plainObj_wpAny_Assign_Attribute (thn (hv pins s σ H _ I h) fun u s1 ⟨y, H1, I1, ry, q⟩ => thn (ha pins s1 σ H1 _ I1 q) fun ov s2 ⟨x, H2, I2, rx, a, C, dx, fs, ex, ea, c, n, l, q2⟩ => ?_) hs
  subst ex
  obtain rfl : ov = Value.ref a := rx
  exact setx_ok I2 ea c n l ry fun d H3 s3 I3 x3 sm => ⟨σ, H3, I3, q2 d H3 x3 sm⟩
end
theorem qbj.ex {P : Program} {w : World} {H : Hp} {h : Heap} {a : Addr} {o : HO} (x : qbj P w H h a o) : ∃ u, h.get? a = some u := by
  cases o with
  | lst xs => obtain ⟨_, _, _, _, e⟩ := x; exact ⟨_, e⟩
  | tup xs => obtain ⟨_, _, _, ob, e, _⟩ := x; exact ⟨_, e⟩
  | dK kvs => obtain ⟨_, _, _, _, o, _, _, e, _⟩ := x; exact ⟨_, e⟩
  | dT kvs => obtain ⟨_, _, _, _, o, _, _, e, _⟩ := x; exact ⟨_, e⟩
  | set S n => obtain ⟨o, _, _, _, e, _⟩ := x; exact ⟨_, e⟩
  | ins C dx fs => obtain ⟨_, _, _, e, _⟩ := x; exact ⟨_, e⟩
  | own y => exact x
  | xd fs => obtain ⟨_, ⟨_, _, _, e, _⟩, _⟩ := x; exact ⟨_, e⟩
  | rng lo hi => obtain ⟨_, _, _, e⟩ := x; exact ⟨_, e⟩
  | frz ob u => obtain ⟨e, _⟩ := x; exact ⟨_, e⟩
  | tbl ps => exact ⟨_, show h.get? a = some _ from x⟩
  | met f y => exact ⟨_, show h.get? a = some _ from x⟩
  | ext φ => exact x.2.1
section
variable {X : Cx} {pins : List (Addr × Obj)} {σ : St} {H : Hp} {s : Shared} {h' : Heap} {a C : Addr} {oA : HO}
theorem Inv.laidN {t' : Nat} (I : Inv X pins σ H s) (k : ∀ b u, s.heap.get? b = some u → h'.get? b = some u) (hn : s.heap.get? a = none) (new : qbj X.prog X.w (upd H a oA) h' a oA) : H a = none ∧ Inv X pins σ (upd H a oA) { s with heap := h', toks := t' } := by
  have hH : H a = none := by
    cases q : H a with
    | none => rfl
    | some u => obtain ⟨w, e⟩ := (I.hok a u q).ex; rw [hn] at e; cases e
  have nb : ∀ b u, s.heap.get? b = some u → b ≠ a := fun b u e z => by rw [z, hn] at e; cases e
  refine ⟨hH, I.un ⟨fun b u e _ _ _ => k b u e, fun b u e _ _ _ => ⟨u.slots, k b u e⟩, fun b u e n _ => by rw [qag (nb b u e)]; exact n, fun b u e _ => ⟨u, k b u e⟩, fun b xs e => by rw [qag (yah e hH)]; exact e,
    fun b u xs e => by rw [qag (yah e hH)]; exact e, fun b ps e => ⟨#[], by rw [qag (yah e hH), e]; simp⟩⟩ fun b u e => ?_⟩
  by_cases hb : b = a
  · subst hb; rw [yaa] at e; cases e; exact new
  · rw [qag hb] at e
    exact (I.hok b u e).stay (fun c v _ q => k c v q) (fun c q => by rw [qag (yah q hH)]; exact q) fun c xs q => by rw [qag (yah q hH)]; exact q
theorem Inv.madeX {rest : List Value} {t' : Nat} (I : Inv X pins σ H s) (m : Heap.MadeExcOf s.heap h' a (.ref C) rest) : H a = none ∧ Inv X pins σ (upd H a (.ext (yb5 a C none))) { s with heap := h', toks := t' } := by
  obtain ⟨tt, e, _⟩ := m.there
  exact I.laidN m.keeps m.new (qhl ⟨_, _, e, rfl, rfl, rfl, rfl⟩)
variable {x : Str} {e : Expr} {es : List Expr} {p pos : Pos} {t : TA}
def qi0 (C : Addr) (t : TA) : TE := fun σ H Q => t σ H fun vs H1 => vs.length ≤ sizeLine ∧ ∀ a, H1 a = none → Q (.ref a) (upd H1 a (.ext (yb5 a C none)))
theorem yji (q : PySem.W.excIn X.K C bmV "ValueError.__new__" = true) (kp : PySem.W.keepIn X.K (.ref C) = true) (hg : Gl X x) (hm : X.mg x = some (.ref C)) (ha : PA X (e :: es) t) (hdb : (x == ("__debug__" : Str)) = false := by decide)
    (he : starEach (e :: es) X.env = (false, eval e X.env) :: starEach es X.env := by rfl) (hpl : (backTo pos (starEach es X.env)).any (·.1) = false := by rfl) : PE X (.Call (.Name x p) (e :: es) [] pos) (qi0 C t) := by
  intro pins s σ H Q I h
  refine wpAny_Call_Name_kw (ydm I hg hm ?_ hdb)
  refine PySem.W.callWith_K (h₀ := X.base) I.ok.mod.kin kp (thn (ha pos pins s σ H _ I h) fun us s1 ⟨vs, H1, I1, r, hl, hq⟩ => ⟨I1.kIn, ?_⟩) he hpl
  have kin := I1.kIn
  obtain ⟨hh, g, dr, tk, os⟩ := s1
  refine xc_call0 kin q (fun h2 a m => ?_) (by rw [List.nil_append, ← r.length]; exact hl)
  obtain ⟨hn, I2⟩ := Inv.madeX (t' := tk) I1 m
  exact ⟨.ref a, _, I2, rfl, hq a hn⟩
variable {k : Nat} {f : Addr} {fd : FuncData} {ps : List Str} {sp : Sp}
def tXMake (C : Addr) (sp : Sp) (t : TA) : TE := fun σ H Q => t σ H fun vs H1 => vs.length ≤ sizeLine ∧ ∀ a, H1 a = none → sp (.ref a :: vs) (upd H1 a (.ext (yb5 a C none))) (fun v H2 => v = .non ∧ Q (.ref a) H2) E0
theorem pe_xmake (c : XOk X.K C) (hi : PySem.W.findIn X.K (.ref C) "__init__" = some (some (.ref f))) (hf : PySem.W.isFn X.K (.ref f) = true) (F : FnOk X.prog X.w X.K X.mg X.base CX0 k f fd ps sp) (hr : Room (k + 1) X.A) (hb : qck X.K fd ps []) (kp : PySem.W.keepIn X.K (.ref C) = true)
    (hg : Gl X x) (hm : X.mg x = some (.ref C)) (ha : PA X (e :: es) t) (hdb : (x == ("__debug__" : Str)) = false := by decide)
    (he : starEach (e :: es) X.env = (false, eval e X.env) :: starEach es X.env := by rfl) (hpl : (backTo pos (starEach es X.env)).any (·.1) = false := by rfl) : PE X (.Call (.Name x p) (e :: es) [] pos) (tXMake C sp t) := by
  intro pins s σ H Q I h
  refine wpAny_Call_Name_kw (ydm I hg hm ?_ hdb)
  refine PySem.W.callWith_K (h₀ := X.base) I.ok.mod.kin kp (thn (ha pos pins s σ H _ I h) fun us s1 ⟨vs, H1, I1, r, hl, hq⟩ => ⟨I1.kIn, ?_⟩) he hpl
  have kin := I1.kIn
  obtain ⟨hh, g, dr, tk, os⟩ := s1
  refine xc_call kin c.cx hi hf (fun h2 a m => ?_) (by rw [List.nil_append, ← r.length]; exact hl)
  obtain ⟨hn, I2⟩ := Inv.madeX (t' := tk) I1 m
  have hsp := hq a hn
  have r2 : Vals (V.ref a :: vs) (Value.ref a :: us) := .cons rfl r
  have hlen : (Value.ref a :: us).length = ps.length := by rw [← r2.length]; exact F.len _ _ _ _ hsp
  have hlen2 : ((Value.ref a :: us) ++ []).length = ps.length := by rw [List.append_nil]; exact hlen
  have bb := hb _ (Value.ref a :: us) I2.kIn hlen2
  rw [List.append_nil] at bb
  refine wpAny_call (codeAny_mono (F.run _ X.stack _ _ ⟨Value.ref a :: us, []⟩ (Value.ref a :: us) _ _ E0 (hr.make C us []) (I2.env0.make C us []) bb r2 hsp) fun r s' hq' => ?_)
  cases r with
  | error e => exact hq'.elim
  | ok fl =>
    cases fl with
    | ret u =>
      obtain ⟨v, H', I3, rv, ev, q3⟩ := I2.after hq'
      subst ev
      exact ⟨rv, ⟨V.ref a, H', I3, rfl, q3⟩⟩
    | next => exact False.elim hq'
    | brk => exact False.elim hq'
    | cont => exact False.elim hq'
theorem XAt.at {fs : List (Str × V)} (x : XAt H a C fs) (I : Inv X pins σ H s) : ∃ ox od, PySem.W.InstAt s.heap a ox C od := by
  rcases x.obj I.hok with ⟨rfl, o, vs, e, c, dn, dt⟩ | ⟨d, ⟨o, vs, e, c, dn, dt⟩, n, l, mA, ⟨od, _, _, ed, _⟩, r, wi⟩
  · exact ⟨o, none, e, c, by unfold PySem.W.notCls; rw [dt], by rw [dn]; trivial⟩
  · exact ⟨o, some od, e, c, by unfold PySem.W.notCls; rw [dt], by rw [dn]; exact ed⟩
def vcls : V → Value
  | .ref c => .ref c
  | .ty n => .type n
  | _ => .none
def rIsiX (K : PySem.W.Frag) : List V → Hp → VK → Prop := fun xs H Q => ∃ a C fs c b, xs = [.ref a, c] ∧ ((∃ d, c = .ref d) ∨ ∃ n, c = .ty n) ∧ XAt H a C fs ∧ XTy K C ∧ PySem.W.kitOne K (.ref C) (vcls c) = some b ∧ Q (.bl b) H
theorem qa4 : ycz X (.builtin "isinstance") (rIsiX X.K) := by
  intro pins s σ H xs us Q I r h
  obtain ⟨a, C, fs, c, b, rfl, hc, hx, T, hk, q⟩ := h
  cases r with
  | cons r rr =>
    cases rr with
    | cons r' rr =>
      cases rr
      cases r
      have hcv : ∃ cv, vcls c = cv ∧ RelV c cv := by
        rcases hc with ⟨d, rfl⟩ | ⟨n, rfl⟩
        · exact ⟨_, rfl, rfl⟩
        · exact ⟨_, rfl, rfl⟩
      obtain ⟨cv, e1, e2⟩ := hcv
      rw [e1] at hk
      rename_i u2
      have e3 : u2 = cv := by
        rcases hc with ⟨d, rfl⟩ | ⟨n, rfl⟩
        · exact (show u2 = Value.ref d from r').trans (show cv = Value.ref d from e2).symm
        · exact (show u2 = Value.type n from r').trans (show cv = Value.type n from e2).symm
      subst e3
      exact PySem.W.kia_one (kitx_xc T) I.kIn (hx.at I) hk (fun z => nomatch z) fun tk => ⟨.bl b, H, I.tok _, rfl, q⟩
end
end L2
namespace L2
open PySem PySem.Spec PyProof.Rows
theorem Vals.bls : ∀ {bs : List Bool} {us : List Value}, Vals (bs.map V.bl) us → us = bs.map Value.bool
  | [], _, .nil => rfl
  | b :: bs, _, .cons r t => by
    have e := Vals.bls t
    cases r
    rw [e]
    rfl
def isB (b : Bool) : Value → Bool
  | .bool c => c == b
  | _ => false
theorem qke (b : Bool) (bs : List Bool) : (bs.map Value.bool).countP (isB b) = bs.count b := by
  rw [List.countP_map]
  rfl
theorem isB_at {A : Around} {s : Shared} (b : Bool) (bs : List Bool) : ∀ y, y ∈ (bs.map Value.bool).toArray → SeqAt.EqAt A s y (.bool b) (isB b y) := by
  intro y hy
  obtain ⟨c, _, e⟩ := List.mem_map.mp (by simpa using hy : y ∈ bs.map Value.bool)
  subst e
  exact SeqAt.EqAt.bool_bool c b
section
variable {X : Cx}
def rCountB : V → List V → Hp → VK → Prop := fun x vs H Q => ∃ (l : Addr) (bs : List Bool) (b : Bool), x = .ref l ∧ vs = [.bl b] ∧ H l = some (.lst (bs.map V.bl)) ∧ Q (.int (bs.count b : Nat)) H
theorem qkm : MtM X "list.count" rCountB := by
  intro pins s σ H x vs v us Q I rx rv h
  obtain ⟨l, bs, b, rfl, rfl, hH, q⟩ := h
  cases rx
  obtain ⟨u, rfl, ru⟩ := rv.one
  cases ru
  obtain ⟨z, its, n, r, hl, e⟩ := I.lstM hH
  have hi := r.bls
  subst hi
  refine call_meets F.slot_list_count ⟨_, e, rfl⟩ F.entry_list_count (F.args_list_count_2 _ _) (SeqAt.list_countAt l _ n _ _ (.bool b) (isB b)) ⟨e, isB_at b bs, ?_⟩
  rw [List.toList_toArray, qke]
  exact ⟨.int (bs.count b : Nat), _, I.tok _, ⟨_, rfl⟩, q⟩
def rIndexB : V → List V → Hp → VK → Prop := fun x vs H Q => ∃ (l : Addr) (bs : List Bool) (b : Bool) (j : Nat), x = .ref l ∧ vs = [.bl b] ∧ H l = some (.lst (bs.map V.bl)) ∧ bs[j]? = some b ∧ (∀ m, m < j → bs[m]? ≠ some b) ∧ Q (.int (j : Nat)) H
theorem yjh : MtM X "list.index" rIndexB := by
  intro pins s σ H x vs v us Q I rx rv h
  obtain ⟨l, bs, b, j, rfl, rfl, hH, hj, hno, q⟩ := h
  cases rx
  obtain ⟨u, rfl, ru⟩ := rv.one
  cases ru
  obtain ⟨z, its, n, r, hl, e⟩ := I.lstM hH
  have hi := r.bls
  subst hi
  obtain ⟨hjl, hjb⟩ := List.getElem?_eq_some_iff.mp hj
  rw [List.length_map] at z
  have hz : (sizeLine : Nat) < 2 ^ 63 - 1 := by decide
  refine call_meets F.slot_list_index ⟨_, e, rfl⟩ F.entry_list_index (F.args_list_index_2 _ _)
    (SeqAt.list_indexAt l _ n _ _ (.bool b) (isB b) j (by rw [List.size_toArray, List.length_map]; exact hjl) (by omega) ?_ fun m hm hlt => ?_) ⟨e, isB_at b bs, ⟨.int (j : Nat), _, I.tok _, ⟨_, rfl⟩, q⟩⟩
  · rw [List.getElem_toArray, List.getElem_map]
    show (bs[j] == b) = true
    rw [hjb]
    exact beq_self_eq_true b
  · rw [List.getElem_toArray, List.getElem_map]
    show (bs[m] == b) = false
    refine beq_eq_false_iff_ne.mpr fun q => hno m hlt ?_
    rw [List.getElem?_eq_getElem (by omega), q]
end
end L2
namespace Mx
open PySem L2 PyProof.Rows
section
variable {X : Cx} {es : List Expr} {te : TE} {t : TA} {pos : Pos}
theorem qgm {k : Const} {j} (ha : PE X (.Constant k j pos) te) (hr : PA X es t) : PA X (.Constant k j pos :: es) (yc4 te t) := qaa ha hr rfl
theorem yci {x : Str} (ha : PE X (.Name x pos) te) (hr : PA X es t) : PA X (.Name x pos :: es) (yc4 te t) := qaa ha hr rfl
theorem qdw {f xs ks} (ha : PE X (.Call f xs ks pos) te) (hr : PA X es t) : PA X (.Call f xs ks pos :: es) (yc4 te t) := qaa ha hr rfl
def yfd : List Expr → Option (List Str)
  | [] => some []
  | .Constant (.str x) _ _ :: r => (yfd r).map (x :: ·)
  | _ => none
theorem yhp {X : Cx} : ∀ {es : List Expr} {xs : List Str}, yfd es = some xs → PA X es (fun _ H Q => Q (xs.map V.str) H)
  | [], xs, h => by
    cases h
    exact yac
  | .Constant (.str x) j p :: r, xs, h => by
    rw [yfd] at h
    obtain ⟨ys, hy, rfl⟩ := Option.map_eq_some_iff.mp h
    exact qgm yal (yhp hy)
def tStrs (xs : List Str) : TE := fun _ H Q => xs.length ≤ sizeLine ∧ ∀ p, H p = none → Q (.ref p) (upd H p (.lst (xs.map V.str)))
theorem qjm {xs : List Str} (h : yfd es = some xs) : PE X (.List es pos) (tStrs xs) := by
  intro pins s σ H Q I hq
  refine yb2 (yhp h) pins s σ H Q I ?_
  exact ⟨by rw [List.length_map]; exact hq.1, hq.2⟩
end
structure QS (X : Cx) (st : Stmt) (t : TS) : Prop where
  of : PS X st t
structure QSs (X : Cx) (ss : List Stmt) (t : TS) : Prop where
  of : PSs X ss t
section
variable {X : Cx} {st : Stmt} {rest a b : List Stmt} {t u : TS} {pos : Pos} {e : Expr} {te : TE}
theorem qss_lit {ss : List Stmt} (h : ss = st :: rest) (p : QSs X (st :: rest) t) : PSs X ss t := h ▸ p.of
theorem qa1 : QSs X [] tNext := ⟨ya0⟩
theorem yaf (h : QS X st t) : QSs X [st] t := ⟨yae h.of⟩
theorem qad (h : QS X st t) (r : QSs X rest u) : QSs X (st :: rest) (tSeq t u) := ⟨yak h.of r.of⟩
theorem yhg (h : QS X st t) (r : QSs X rest u) : QSs X (st :: rest) (tCut t u) := ⟨pss_cut h.of r.of⟩
theorem qd3 (h : PS X st t) : QS X st t := ⟨h⟩
theorem qs_if {c : Expr} {tc : TT} (hc : PT X c tc) (ha : QSs X a t) (hb : QSs X b u) : QS X (.If c a b pos) (tIfS tc t u) := ⟨qb4 hc ha.of hb.of⟩
theorem qs_ret (he : PE X e te) : QS X (.Return (some e) pos) (tRet te) := ⟨qaw he⟩
theorem qh7 {i : Nat} {x : Str} {pos' : Pos} (hN : X.N.Nodup) (hi : X.N[i]? = some x) (hx : Loc X.env.scope x) (he : PE X e te) (hs : swapsWith e (some (.Name x pos')) pos.line X.env = pure false := by rfl) (hf : X.fn x = true ∨ X.env.scope.names.lookup x = some .local := by first | exact .inl rfl | exact .inr rfl | assumption) :
    QS X (.Assign [.Name x pos'] e pos) (tAsg te (yft i)) := ⟨qbq hN hi hx he hs hf⟩
theorem qs_strs {es : List Expr} {p2 pos' : Pos} {i : Nat} {x : Str} {xs : List Str} (hN : X.N.Nodup) (hi : X.N[i]? = some x) (hx : Loc X.env.scope x) (h : yfd es = some xs) (hf : X.fn x = true ∨ X.env.scope.names.lookup x = some .local := by first | exact .inl rfl | exact .inr rfl | assumption) :
    QS X (.Assign [.Name x pos'] (.List es p2) pos) (tAsg (tStrs xs) (yft i)) := ⟨qbq hN hi hx (qjm h) rfl hf⟩
end
end Mx
namespace L2
open PySem PySem.Spec PyProof.Rows PySem.Builtin PySem.Builtin.Str PySem.StrLaws
section
variable {X : Cx}
end
end L2
namespace L2
open PySem PySem.Spec PyProof.Rows PyProof.Rows.KTD
def TabK (K : PySem.W.Frag) (a : Addr) (D : List (Str × List V)) : Prop :=
  (a == sysModules) = false ∧ ∃ o es ep, K.lookup a = some o ∧ o.ExactDict ∧ o.data = .dict es ep ∧ KTD.Rows (fun xs v => ∃ p, v = .ref p ∧ ∀ H, SqT K H p xs) es.toList D
section
variable {prog : Program} {w : World} {A : Around} {E : Value → Shared → Prop} {s : Shared} {a : Addr} {k : Str} {tk : Tok} {o : Obj} {es : Array DictEntry} {ep : Nat}
theorem qfm {Q : Option Value → Shared → Prop} (g : s.heap.get? a = some o) (gd : o.data = .dict es ep) (ge : (es.toList.all fun e => isExactStrKey e.key) = true)
    (q : Q ((es.toList.find? fun e => e.key.isStr k).map (·.val)) { s with toks := s.toks + 1 }) : wpAny (model prog w) A (dictGet a (.str k tk)) Q E s := by
  obtain ⟨l⟩ := es
  have q2 : Q (findBy (fun k v => v.isStr k) ⟨l⟩ k) { s with toks := s.toks + 1 } := by
    rw [show findBy (fun k v => v.isStr k) (⟨l⟩ : Array DictEntry) k = (l.find? fun e => e.key.isStr k).map (·.val) by simp [findBy]]
    exact q
  unfold dictGet
  try with_reducible refine wpAny_holding ?_
  refine wpAny_bind (wpAny_pyHash_str ?_)
  refine wpAny_bind ?_
  refine kt_dictFind_strs (s := { s with toks := s.toks + 1 }) g gd (by simpa using ge) ?_
  rw [findBy_of_findIdx?] at q2
  revert q2
  cases (⟨l⟩ : Array DictEntry).findIdx? fun e => e.key.isStr k with
  | none => intro q2; exact wpAny_pure q2
  | some i => intro q2; refine wpAny_bind ?_; exact wpAny_dictEntries (s := { s with toks := s.toks + 1 }) g gd (wpAny_pure q2)
end
section
variable {X : Cx} {pins : List (Addr × Obj)} {σ : St} {H : Hp} {s : Shared} {a : Addr} {D : List (Str × List V)}
theorem TabK.dict (I : Inv X pins σ H s) (T : TabK X.K a D) : s.TypeIs (.ref a) "dict" ∧ ∀ b, Value.ref a = .ref b → ∃ ob, s.heap.get? b = some ob ∧ ob.dict = none := by
  obtain ⟨_, o, es, ep, hl, hx, hd, hr⟩ := T
  refine ⟨⟨o, I.kIn a o hl, hx.1⟩, fun b e => ?_⟩
  cases e
  exact ⟨o, I.kIn a o hl, hx.2.1⟩
theorem TabK.ask {k : Str} {tk : Tok} {E : Value → Shared → Prop} {A : Around} {Q : Option Value → Shared → Prop} (I : Inv X pins σ H s) (T : TabK X.K a D)
    (h1 : ∀ xs p, datumAt k D = some xs → (∀ H, SqT X.K H p xs) → Q (some (.ref p)) { s with toks := s.toks + 1 }) (h2 : datumAt k D = none → Q none { s with toks := s.toks + 1 }) : wpAny (model X.prog X.w) A (dictGet a (.str k tk)) Q E s := by
  obtain ⟨_, o, es, ep, hl, hx, hd, hr⟩ := T
  refine qfm (I.kIn a o hl) hd hr.exact ?_
  cases hat : datumAt k D with
  | some xs =>
    obtain ⟨v, hv, p, rfl, hp⟩ := hr.find_some hat
    rw [hv]
    exact h1 xs p hat hp
  | none => rw [hr.find_none hat]; exact h2 hat
def rIxTab (K : PySem.W.Frag) (D : List (Str × List V)) : R2 := fun x y H Q => ∃ a k xs, x = .ref a ∧ y = .str k ∧ TabK K a D ∧ datumAt k D = some xs ∧ ∀ p, (∀ H, SqT K H p xs) → Q (.ref p) H
theorem qid : IxR X (rIxTab X.K D) := by
  intro value slice pins s σ H x y v u Q I rx ry h hs
  obtain ⟨a, k, xs, rfl, rfl, T, hd, q⟩ := h
  cases rx
  obtain ⟨tk, rfl⟩ := ry
  obtain ⟨hsm, o, es, ep, hl, hx, hd2, hr⟩ := id T
  obtain ⟨v, hv, p, rfl, hp⟩ := hr.find_some hd
  have fin : EP X pins σ Q (.ref p) { s with toks := s.toks + 1 } := ⟨.ref p, H, I.tok _, rfl, q p hp⟩
  refine subscriptTail_builtinR (x := .ref p) (T.dict I).1 slot_dict_getitem.lookup ?_ hs
  unfold getItem
  try with_reducible refine wpAny_holding ?_
  refine wpAny_bind (wpAny_sequenceKey (T.dict I).1 (by decide) ?_)
  refine wpAny_bind (wpAny_callSpecial?_slot (name := Str.ofString "__getitem__") (T.dict I).1 slot_dict_getitem (wpAny_call_entry slot_dict_getitem (T.dict I).1 entry_dict_getitem ?_ (args_dict_getitem _ _)))
  show wpAny _ _ (dictGet a (.str k tk) >>= _) _ _ _
  refine wpAny_bind (qfm (I.kIn a o hl) hd2 hr.exact ?_)
  rw [hv]
  exact wpAny_pure ⟨_, rfl, wpAny_pure ⟨rfl, fin⟩⟩
def rInTab (K : PySem.W.Frag) (D : List (Str × List V)) : R2 := fun x y H Q => ∃ a k, x = .str k ∧ y = .ref a ∧ TabK K a D ∧ Q (.bl (inKeys k D)) H
theorem yh2 : OpR X (compareOp .In) (rInTab X.K D) := by
  intro pins s σ H x y v u Q I rx ry h
  obtain ⟨a, k, rfl, rfl, T, q⟩ := h
  cases ry
  obtain ⟨tk, rfl⟩ := rx
  show wpAny _ _ (contains (.ref a) (.str k tk) >>= fun c => pure (Value.bool c)) _ _ s
  refine wpAny_bind ?_
  unfold contains
  try with_reducible refine wpAny_holding ?_
  refine wpAny_bind (wpAny_specialOf (T.dict I).1 slot_dict_contains.lookup ?_)
  show wpAny _ _ (if (some (Value.builtin "dict.__contains__") == some Value.none) = true then _ else _) _ _ s
  rw [if_neg (by rw [beq_builtin_none]; exact Bool.false_ne_true)]
  refine wpAny_bind (wpAny_callSpecialUnlessNone?_slot (name := Str.ofString "__contains__") (T.dict I).1 slot_dict_contains (wpAny_call_entry slot_dict_contains (T.dict I).1 entry_dict_contains ?_ (args_dict_contains _ _)))
  show wpAny _ _ (dictGet a (.str k tk) >>= _) _ _ _
  refine wpAny_bind (T.ask I (fun xs p hd hp => ?_) fun hn => ?_)
  · have e : inKeys k D = true := by rw [← isSome_datumAt, hd]; rfl
    rw [e] at q
    show wpAny _ _ (ret (.bool true)) _ _ _
    exact wpAny_pure ⟨_, rfl, wpAny_truthy_bool (wpAny_pure ⟨.bl true, H, I.tok _, rfl, q⟩)⟩
  · have e : inKeys k D = false := by rw [← isSome_datumAt, hn]; rfl
    rw [e] at q
    show wpAny _ _ (Builtin.Dict.pendingKey? a (.str k tk) >>= _) _ _ _
    exact wpAny_bind (wpAny_pendingKey_other T.1 (wpAny_pure ⟨_, rfl, wpAny_truthy_bool (wpAny_pure ⟨.bl false, H, I.tok _, rfl, q⟩)⟩))
end
end L2
namespace L2
open PySem PySem.Spec PyProof.Rows
section
variable {X : Cx}
theorem Vals.back : ∀ {xs : List V} {us : List Value}, Vals xs us → ∀ u ∈ us, ∃ v ∈ xs, RelV v u
  | _, _, .nil, u, h => nomatch h
  | x :: xs, _, .cons r t, u, h => by
    rcases List.mem_cons.mp h with rfl | h
    · exact ⟨x, List.mem_cons_self .., r⟩
    · obtain ⟨v, hv, rv⟩ := Vals.back t u h
      exact ⟨v, List.mem_cons_of_mem _ hv, rv⟩
end
open Builtin.SmallTypes (nextOf)
def SIt (h : Heap) (tp : Bool) (q l : Addr) (i : Nat) : Prop := if tp then IsTupIter h q l i else h.IsListIter q l i
def SOf (h : Heap) (tp : Bool) (l : Addr) (its : Array Value) : Prop := if tp then IsTup h l its else h.IsList l its
section
variable {prog : Program} {w : World} {A : Around} {E : Value → Shared → Prop} {s : Shared} {q l : Addr} {i : Nat} {its : Array Value}
theorem SIt.at {h h' : Heap} {tp : Bool} (x : SIt h tp q l i) (k : ∀ o, h.get? q = some o → h'.get? q = some o) : SIt h' tp q l i := by
  cases tp with
  | true => obtain ⟨o, g, r⟩ := x; exact ⟨o, k o g, r⟩
  | false => obtain ⟨o, g, r⟩ := x; exact ⟨o, k o g, r⟩
theorem SIt.obj {h : Heap} {tp : Bool} (x : SIt h tp q l i) : ∃ o, h.get? q = some o ∧ ∀ v, o.data ≠ .cell v := by
  cases tp with
  | true => obtain ⟨o, g, c, d⟩ := x; exact ⟨o, g, fun v z => by rw [d] at z; cases z⟩
  | false => obtain ⟨o, g, c, d⟩ := x; exact ⟨o, g, fun v z => by rw [d] at z; cases z⟩
theorem SOf.at {h h' : Heap} {tp : Bool} (x : SOf h tp l its) (k : ∀ o, h.get? l = some o → h'.get? l = some o) : SOf h' tp l its := by
  cases tp with
  | true => obtain ⟨o, g, r⟩ := x; exact ⟨o, k o g, r⟩
  | false => obtain ⟨o, g, r⟩ := x; exact ⟨o, k o g, r⟩
theorem ydn {tp : Bool} {x : Value} {Q : Value → Shared → Prop} (hq : SIt s.heap tp q l i) (hl : SOf s.heap tp l its) (hx : its[i]? = some x)
    (k : ∀ h', SIt h' tp q l (i + 1) → Heap.SameBut q s.heap h' → Q x { s with heap := h' }) : wpAny (model prog w) A (nextOf (.ref q)) Q E s := by
  cases tp with
  | false => exact wpAny_nextOf_list_item hq hl hx k
  | true =>
    have hq' : IsTupIter s.heap q l i := hq
    obtain ⟨o, go, gc, gd⟩ := id hq'
    obtain ⟨ol, gl, _, nl, gdl⟩ := (show IsTup s.heap l its from hl)
    unfold Builtin.SmallTypes.nextOf
    refine wpAny_bind (wpAny_callSpecial?_slot (name := Str.ofString "__next__") hq'.typeIs slot_tupleiter_next (wpAny_call_entry slot_tupleiter_next hq'.typeIs entry_tupleiter_next ?_ (args_tupleiter_next _)))
    show wpAny _ _ (field (.ref q) 0 >>= _) _ _ s
    refine wpAny_bind (wpAny_field go gd (x := .ref l) rfl ?_)
    show wpAny _ _ (if (Value.ref l == Value.none) = true then _ else _) _ _ s
    rw [if_neg (by exact Bool.false_ne_true : ¬ ((Value.ref l == Value.none) = true))]
    show wpAny _ _ (field (.ref q) 1 >>= _) _ _ s
    refine wpAny_bind (wpAny_field go gd (x := .int i 0) rfl ?_)
    show wpAny _ _ (seqItems? (.ref l) >>= _) _ _ s
    refine wpAny_bind (wpAny_seqItems gl gdl ?_)
    simp only [Int.toNat_natCast, hx]
    refine wpAny_bind (wpAny_setField go gd (by simp) (wpAny_pure ⟨x, rfl, ?_⟩))
    refine wpAny_pure (k _ ?_ (Heap.SameBut.update ..))
    exact ⟨_, Heap.get?_update_self _ go (Obj.isFreed_of_fields (Obj.data_mapFields gd _)), (Obj.cls_mapFields ..).trans gc, by rw [Obj.data_mapFields gd]; simp [rawInt]⟩
theorem yfw {tp : Bool} {Q : Value → Shared → Prop} (hh : A.handled = none) (hq : SIt s.heap tp q l i) (hl : SOf s.heap tp l its) (hx : its[i]? = none)
    (k : ∀ h' e, Heap.ExtBut q s.heap h' → (∃ o, h'.get? e = some o ∧ o.cls = .type "StopIteration") → E (.ref e) { s with heap := h' }) : wpAny (model prog w) A (nextOf (.ref q)) Q E s := by
  cases tp with
  | false => exact wpAny_nextOf_list_end hh hq hl hx k
  | true =>
    have hq' : IsTupIter s.heap q l i := hq
    obtain ⟨o, go, gc, gd⟩ := id hq'
    obtain ⟨ol, gl, _, nl, gdl⟩ := (show IsTup s.heap l its from hl)
    unfold Builtin.SmallTypes.nextOf
    refine wpAny_bind (wpAny_callSpecial?_slot (name := Str.ofString "__next__") hq'.typeIs slot_tupleiter_next (wpAny_call_entry slot_tupleiter_next hq'.typeIs entry_tupleiter_next ?_ (args_tupleiter_next _)))
    show wpAny _ _ (field (.ref q) 0 >>= _) _ _ s
    refine wpAny_bind (wpAny_field go gd (x := .ref l) rfl ?_)
    show wpAny _ _ (if (Value.ref l == Value.none) = true then _ else _) _ _ s
    rw [if_neg (by exact Bool.false_ne_true : ¬ ((Value.ref l == Value.none) = true))]
    show wpAny _ _ (field (.ref q) 1 >>= _) _ _ s
    refine wpAny_bind (wpAny_field go gd (x := .int i 0) rfl ?_)
    show wpAny _ _ (seqItems? (.ref l) >>= _) _ _ s
    refine wpAny_bind (wpAny_seqItems gl gdl ?_)
    simp only [Int.toNat_natCast, hx]
    refine wpAny_bind (wpAny_rule ?_)
    refine wpAny_bind (wpAny_setField go gd (by simp) ?_)
    show wpAny _ _ (newExc (.type "StopIteration") [] >>= _) _ _ _
    refine wpAny_bind ?_
    simp only [newExc, newTuple]
    refine wpAny_bind (wpAny_newObj_type ?_ (by size_fits))
    refine wpAny_bind (m := firstArgMember _ _) ?_
    refine wpAny_of_eq (a := Value.none) (by first | rfl | (simp only [firstArgMember]; rfl)) ?_
    refine wpAny_newObj_type ?_ (by size_fits)
    simp only [raiseNew]
    refine wpAny_bind (wpAny_handled ?_)
    first | rw [show A.in1.handled = none from hh] | rw [hh]
    refine wpAny_bind (wpAny_pure (wpAny_throw ?_))
    exact k _ _ (((Heap.SameBut.update ..).extBut.push _).push _) ⟨_, Heap.get?_push_size _ rfl, rfl⟩
theorem neN {a b : Nat} (h : a < b ∨ b < a) : a ≠ b := by omega
theorem zipNext {n l1 l2 k : Nat} {xs ys : Array Value} {x y a b : Value} {t1 t2 : Bool} {Q : Value → Shared → Prop} (b1 : l1 < n) (b2 : l2 < n) (gz : IsZip s.heap (n + 4) (n + 2) (n + 3) .none) (gi : IsPair s.heap (n + 2) (.ref n) (.ref (n + 1))) (go : IsPair s.heap (n + 3) a b)
    (q1 : SIt s.heap t1 n l1 k) (q2 : SIt s.heap t2 (n + 1) l2 k) (o1 : SOf s.heap t1 l1 xs) (o2 : SOf s.heap t2 l2 ys) (hx : xs[k]? = some x) (hy : ys[k]? = some y)
    (kk : ∀ h', IsZip h' (n + 4) (n + 2) (n + 3) (rawInt s.heap.objs.size) → IsPair h' (n + 3) x y → SIt h' t1 n l1 (k + 1) → SIt h' t2 (n + 1) l2 (k + 1) → IsPair h' s.heap.objs.size x y → h'.objs.size = s.heap.objs.size + 1 →
      (∀ c o, c ≠ n + 4 → c ≠ n + 3 → c ≠ n → c ≠ n + 1 → s.heap.get? c = some o → h'.get? c = some o) → Q (.ref s.heap.objs.size) { s with heap := h' }) :
    wpAny (model prog w) A (Builtin.«zip.__next__» ⟨[.ref (n + 4)], []⟩) (fun fin s' => ∃ v, fin = .done (.ret v) ∧ Q v s') E s := by
  show wpAny _ _ (field (.ref (n + 4)) 2 >>= _) _ _ _
  refine wpAny_bind (wpAny_field gz rfl (x := .bool false) rfl ?_)
  show wpAny _ _ (field (.ref (n + 4)) 3 >>= _) _ _ _
  refine wpAny_bind (wpAny_field gz rfl (x := .ref (n + 2)) rfl ?_)
  refine wpAny_bind (wpAny_seqItems gi rfl ?_)
  show wpAny _ _ (Builtin.SmallTypes.ownedTupleIsFree (.ref (n + 4)) >>= _) _ _ _
  refine wpAny_bind ?_
  unfold Builtin.SmallTypes.ownedTupleIsFree
  refine wpAny_bind (wpAny_field gz rfl (x := .none) rfl ?_)
  refine wpAny_pure ?_
  simp only [if_true]
  refine wpAny_bind (wpAny_rule ?_)
  refine wpAny_bind (wpAny_field gz rfl (x := .ref (n + 3)) rfl ?_)
  refine wpAny_bind (wpAny_setField_rec gz (by simp) fun m1 gz1 e1 => ?_)
  replace gz1 : IsZip m1 (n + 4) (n + 2) (n + 3) .ellipsis := gz1
  refine wpAny_bind ?_
  simp only [List.zipIdx_cons, List.zipIdx_nil, List.forIn_cons, List.forIn_nil]
  refine wpAny_bind (wpAny_bind ?_)
  refine wpAny_onRaise ?_
  show wpAny _ _ (nextOf (.ref n) >>= _) _ _ _
  refine wpAny_bind (ydn (q1.at fun o g => e1.extBut _ _ (neN (by omega)) g) (o1.at fun o g => e1.extBut _ _ (neN (by omega)) g) hx fun m2 r1 e2 => ?_)
  refine wpAny_pure ?_
  have go2 : IsPair m2 (n + 3) a b := e2.extBut _ _ (neN (by omega)) (e1.extBut _ _ (neN (by omega)) go)
  refine wpAny_bind (wpAny_seqItems go2 rfl ?_)
  refine wpAny_bind (wpAny_updateSeq_pair go2 fun m3 go3 e3 => ?_)
  replace go3 : IsPair m3 (n + 3) x b := go3
  refine wpAny_bind (wpAny_letGo ?_)
  refine wpAny_pure ?_
  refine wpAny_bind (wpAny_bind ?_)
  refine wpAny_onRaise ?_
  show wpAny _ _ (nextOf (.ref (n + 1)) >>= _) _ _ _
  refine wpAny_bind (ydn (q2.at fun o g => e3.extBut _ _ (neN (by omega)) (e2.extBut _ _ (neN (by omega)) (e1.extBut _ _ (neN (by omega)) g))) (o2.at fun o g => e3.extBut _ _ (neN (by omega)) (e2.extBut _ _ (neN (by omega)) (e1.extBut _ _ (neN (by omega)) g))) hy fun m4 r2 e4 => ?_)
  refine wpAny_pure ?_
  have go4 : IsPair m4 (n + 3) x b := e4.extBut _ _ (neN (by omega)) go3
  refine wpAny_bind (wpAny_seqItems go4 rfl ?_)
  refine wpAny_bind (wpAny_updateSeq_pair go4 fun m5 go5 e5 => ?_)
  replace go5 : IsPair m5 (n + 3) x y := go5
  refine wpAny_bind (wpAny_letGo ?_)
  refine wpAny_pure (wpAny_pure ?_)
  refine wpAny_bind (wpAny_seqItems go5 rfl ?_)
  refine wpAny_bind (wpAny_newTuple ?_)
  have hsz : m5.objs.size = s.heap.objs.size := by rw [e5.1, e4.1, e3.1, e2.1, e1.1]
  have gz5 : IsZip m5 (n + 4) (n + 2) (n + 3) .ellipsis := e5.extBut _ _ (neN (by omega)) (e4.extBut _ _ (neN (by omega)) (e3.extBut _ _ (neN (by omega)) (e2.extBut _ _ (neN (by omega)) gz1)))
  have keep5 : ∀ c o, c ≠ n + 4 → c ≠ n + 3 → c ≠ n → c ≠ n + 1 → s.heap.get? c = some o → m5.get? c = some o := fun c o d1 d2 d3 d4 g =>
    e5.extBut _ _ d2 (e4.extBut _ _ d4 (e3.extBut _ _ d2 (e2.extBut _ _ d3 (e1.extBut _ _ d1 g))))
  have r15 : SIt m5 t1 n l1 (k + 1) := r1.at fun o g => e5.extBut _ _ (neN (by omega)) (e4.extBut _ _ (neN (by omega)) (e3.extBut _ _ (neN (by omega)) g))
  have r25 : SIt m5 t2 (n + 1) l2 (k + 1) := r2.at fun o g => e5.extBut _ _ (neN (by omega)) g
  have lt5 : n + 4 < m5.objs.size := Heap.lt_size gz5
  show wpAny _ _ (Builtin.SmallTypes.ownedTupleHandOut (.ref (n + 4)) (.ref m5.objs.size) >>= _) _ _ _
  refine wpAny_bind ?_
  unfold Builtin.SmallTypes.ownedTupleHandOut
  have gz6 : IsZip (m5.push { cls := .type "tuple", data := .seq #[x, y] }) (n + 4) (n + 2) (n + 3) .ellipsis := Heap.get?_push_of_some _ gz5
  refine wpAny_bind (wpAny_setField_rec gz6 (by simp) fun m7 gz7 e7 => ?_)
  replace gz7 : IsZip m7 (n + 4) (n + 2) (n + 3) (rawInt m5.objs.size) := gz7
  refine wpAny_setField_rec gz7 (by simp) fun m8 gz8 e8 => ?_
  replace gz8 : IsZip m8 (n + 4) (n + 2) (n + 3) (rawInt m5.objs.size) := gz8
  have up : ∀ c o, c ≠ n + 4 → m5.get? c = some o → m8.get? c = some o := fun c o d1 g => e8.extBut _ _ d1 (e7.extBut _ _ d1 (Heap.get?_push_of_some _ g))
  have gt8 : IsPair m8 m5.objs.size x y := e8.extBut _ _ (Nat.ne_of_gt lt5) (e7.extBut _ _ (Nat.ne_of_gt lt5) (Heap.get?_push_size _ rfl))
  have hs8 : m8.objs.size = m5.objs.size + 1 := by rw [e8.1, e7.1, Heap.size_push]
  rw [hsz] at gz8 gt8 hs8
  refine wpAny_pure ⟨_, rfl, ?_⟩
  show Q (.ref m5.objs.size) _
  rw [hsz]
  exact kk m8 gz8 (up _ _ (neN (by omega)) go5) (r15.at fun o g => up _ o (neN (by omega)) g) (r25.at fun o g => up _ o (neN (by omega)) g) gt8 hs8 fun c o d1 d2 d3 d4 g => up c o d1 (keep5 c o d1 d2 d3 d4 g)
theorem zipDone {n l1 l2 k : Nat} {xs ys : Array Value} {a b : Value} {t1 t2 : Bool} {Q : Fin → Shared → Prop} (hh : A.handled = none) (b1 : l1 < n) (b2 : l2 < n) (gz : IsZip s.heap (n + 4) (n + 2) (n + 3) .none) (gi : IsPair s.heap (n + 2) (.ref n) (.ref (n + 1))) (go : IsPair s.heap (n + 3) a b)
    (q1 : SIt s.heap t1 n l1 k) (q2 : SIt s.heap t2 (n + 1) l2 k) (o1 : SOf s.heap t1 l1 xs) (o2 : SOf s.heap t2 l2 ys) (hend : xs[k]? = none ∨ ys[k]? = none)
    (kk : ∀ h' e, (∀ c o, c ≠ n + 4 → c ≠ n + 3 → c ≠ n → c ≠ n + 1 → s.heap.get? c = some o → h'.get? c = some o) → (∃ o, h'.get? e = some o ∧ o.cls = .type "StopIteration") → E (.ref e) { s with heap := h' }) :
    wpAny (model prog w) A (Builtin.«zip.__next__» ⟨[.ref (n + 4)], []⟩) Q E s := by
  show wpAny _ _ (field (.ref (n + 4)) 2 >>= _) _ _ _
  refine wpAny_bind (wpAny_field gz rfl (x := .bool false) rfl ?_)
  show wpAny _ _ (field (.ref (n + 4)) 3 >>= _) _ _ _
  refine wpAny_bind (wpAny_field gz rfl (x := .ref (n + 2)) rfl ?_)
  refine wpAny_bind (wpAny_seqItems gi rfl ?_)
  show wpAny _ _ (Builtin.SmallTypes.ownedTupleIsFree (.ref (n + 4)) >>= _) _ _ _
  refine wpAny_bind ?_
  unfold Builtin.SmallTypes.ownedTupleIsFree
  refine wpAny_bind (wpAny_field gz rfl (x := .none) rfl ?_)
  refine wpAny_pure ?_
  simp only [if_true]
  refine wpAny_bind (wpAny_rule ?_)
  refine wpAny_bind (wpAny_field gz rfl (x := .ref (n + 3)) rfl ?_)
  refine wpAny_bind (wpAny_setField_rec gz (by simp) fun m1 gz1 e1 => ?_)
  replace gz1 : IsZip m1 (n + 4) (n + 2) (n + 3) .ellipsis := gz1
  refine wpAny_bind ?_
  simp only [List.zipIdx_cons, List.zipIdx_nil, List.forIn_cons, List.forIn_nil]
  refine wpAny_bind (wpAny_bind ?_)
  refine wpAny_onRaise ?_
  show wpAny _ _ (nextOf (.ref n) >>= _) _ _ _
  have p1 : SIt m1 t1 n l1 k := q1.at fun o g => e1.extBut _ _ (neN (by omega)) g
  have p2 : SOf m1 t1 l1 xs := o1.at fun o g => e1.extBut _ _ (neN (by omega)) g
  cases hx : xs[k]? with
  | none =>
    refine wpAny_bind (yfw hh p1 p2 hx fun m2 e g2 he => ?_)
    obtain ⟨oe, hoe, hce⟩ := he
    have gz2 : IsZip m2 (n + 4) (n + 2) (n + 3) .ellipsis := g2 _ _ (neN (by omega)) gz1
    have ne : e ≠ n + 4 := fun z => by subst z; rw [gz2] at hoe; cases hoe; simp at hce
    refine wpAny_setField_rec gz2 (by simp) fun m3 _ e3 => ?_
    exact kk m3 e (fun c o d1 _ d3 _ g => e3.extBut _ _ d1 (g2 _ _ d3 (e1.extBut _ _ d1 g))) ⟨oe, e3.extBut _ _ ne hoe, hce⟩
  | some x =>
    have hy : ys[k]? = none := by
      rcases hend with z | z
      · rw [hx] at z; cases z
      · exact z
    refine wpAny_bind (ydn p1 p2 hx fun m2 r1 e2 => ?_)
    refine wpAny_pure ?_
    have go2 : IsPair m2 (n + 3) a b := e2.extBut _ _ (neN (by omega)) (e1.extBut _ _ (neN (by omega)) go)
    refine wpAny_bind (wpAny_seqItems go2 rfl ?_)
    refine wpAny_bind (wpAny_updateSeq_pair go2 fun m3 go3 e3 => ?_)
    refine wpAny_bind (wpAny_letGo ?_)
    refine wpAny_pure ?_
    refine wpAny_bind (wpAny_bind ?_)
    refine wpAny_onRaise ?_
    show wpAny _ _ (nextOf (.ref (n + 1)) >>= _) _ _ _
    refine wpAny_bind (yfw hh (q2.at fun o g => e3.extBut _ _ (neN (by omega)) (e2.extBut _ _ (neN (by omega)) (e1.extBut _ _ (neN (by omega)) g))) (o2.at fun o g => e3.extBut _ _ (neN (by omega)) (e2.extBut _ _ (neN (by omega)) (e1.extBut _ _ (neN (by omega)) g))) hy fun m4 e g4 he => ?_)
    obtain ⟨oe, hoe, hce⟩ := he
    have gz4 : IsZip m4 (n + 4) (n + 2) (n + 3) .ellipsis := g4 _ _ (neN (by omega)) (e3.extBut _ _ (neN (by omega)) (e2.extBut _ _ (neN (by omega)) gz1))
    have ne : e ≠ n + 4 := fun z => by subst z; rw [gz4] at hoe; cases hoe; simp at hce
    refine wpAny_setField_rec gz4 (by simp) fun m5 _ e5 => ?_
    exact kk m5 e (fun c o d1 d2 d3 d4 g => e5.extBut _ _ d1 (g4 _ _ d4 (e3.extBut _ _ d2 (e2.extBut _ _ d3 (e1.extBut _ _ d1 g))))) ⟨oe, e5.extBut _ _ ne hoe, hce⟩
def itN (tp : Bool) : String := if tp then "tuple_iterator" else "list_iterator"
theorem iterS {tp : Bool} {Q : Value → Shared → Prop} (hl : SOf s.heap tp l its) (k : Q (.ref s.heap.objs.size) { s with heap := s.heap.push { cls := .type (itN tp), data := .fields #[.ref l, .int 0 0] } }) : wpAny (model prog w) A (pyIter (.ref l)) Q E s := by
  cases tp with
  | true => exact iter_tuple hl k
  | false => exact wpAny_pyIter_list hl k
theorem SIt.new {tp : Bool} {h : Heap} : SIt (h.push { cls := .type (itN tp), data := .fields #[.ref l, .int 0 0] }) tp h.objs.size l 0 := by
  cases tp with
  | true => exact ⟨_, Heap.get?_push_size _ rfl, rfl, rfl⟩
  | false => exact ⟨_, Heap.get?_push_size _ rfl, rfl, rfl⟩
abbrev zp1 (h : Heap) (t1 : Bool) (l1 : Addr) : Heap := h.push { cls := .type (itN t1), data := .fields #[.ref l1, .int 0 0] }
abbrev zp2 (h : Heap) (t1 t2 : Bool) (l1 l2 : Addr) : Heap := (zp1 h t1 l1).push { cls := .type (itN t2), data := .fields #[.ref l2, .int 0 0] }
abbrev zp3 (h : Heap) (t1 t2 : Bool) (l1 l2 : Addr) : Heap := (zp2 h t1 t2 l1 l2).push { cls := .type "tuple", data := .seq #[.ref h.objs.size, .ref (zp1 h t1 l1).objs.size] }
abbrev zp4 (h : Heap) (t1 t2 : Bool) (l1 l2 : Addr) : Heap := (zp3 h t1 t2 l1 l2).push { cls := .type "tuple", data := .seq #[.none, .none] }
abbrev zp5 (h : Heap) (t1 t2 : Bool) (l1 l2 : Addr) : Heap := (zp4 h t1 t2 l1 l2).push { cls := .type "zip", data := .fields #[.none, .bool false, .bool false, .ref (zp2 h t1 t2 l1 l2).objs.size, .ref (zp3 h t1 t2 l1 l2).objs.size] }
theorem zipNew (t1 t2 : Bool) (l1 l2 : Addr) (xs ys : Array Value) :
    Meets (Builtin.«zip.__new__» ⟨[.type "zip", .ref l1, .ref l2], []⟩) (fun _ R s => SOf s.heap t1 l1 xs ∧ SOf s.heap t2 l2 ys ∧ R (.ok (.ret (.ref (zp4 s.heap t1 t2 l1 l2).objs.size))) { s with heap := zp5 s.heap t1 t2 l1 l2 }) :=
  .of_wp fun prog w A R s h => by
    obtain ⟨hp, g, d, tk, os⟩ := s
    obtain ⟨y1, y2, h⟩ := h
    have hsub := sub_zip
    have Y1 : SOf (Shared.heap ⟨hp, g, d, tk, os⟩) t1 l1 xs := y1
    have Y2 : SOf (Shared.heap ⟨hp.push { cls := .type (itN t1), data := .fields #[.ref l1, .int 0 0] }, g, d, tk, os⟩) t2 l2 ys := y2.at fun o z => Heap.get?_push_of_some _ z
    wp_walk using iterS Y1, iterS Y2
    exact ⟨_, rfl, h⟩
end
theorem qj4 : bootBuiltins "zip" = some (.type "zip") := by decide +kernel
section
variable {prog : Program} {w : World} {A : Around} {E : Value → Shared → Prop} {s : Shared}
def ZSt (h : Heap) (n : Nat) (t1 t2 : Bool) (l1 l2 : Addr) (i : Nat) : Prop :=
  ∃ a b, IsZip h (n + 4) (n + 2) (n + 3) .none ∧ IsPair h (n + 2) (.ref n) (.ref (n + 1)) ∧ IsPair h (n + 3) a b ∧ SIt h t1 n l1 i ∧ SIt h t2 (n + 1) l2 i
theorem yj1 {t1 t2 : Bool} {l1 l2 : Addr} {xs ys : Array Value} {Q : Value → Shared → Prop} (y1 : SOf s.heap t1 l1 xs) (y2 : SOf s.heap t2 l2 ys)
    (k : ∀ h', ZSt h' s.heap.objs.size t1 t2 l1 l2 0 → (∀ c o, s.heap.get? c = some o → h'.get? c = some o) → Q (.ref (s.heap.objs.size + 4)) { s with heap := h' }) :
    wpAny (model prog w) A (call (.type "zip") [.ref l1, .ref l2]) Q E s := by
  refine callType_new F.called_zip (by decide) (F.typeCall_zip_2 _ _) (F.newCall_zip_2 _ _) (fun obj => F.args_object_init_3 obj _ _) F.entry_zip_new (zipNew t1 t2 l1 l2 xs ys) ⟨y1, y2, ?_⟩
  have z1 : (zp1 s.heap t1 l1).objs.size = s.heap.objs.size + 1 := Heap.size_push ..
  have z2 : (zp2 s.heap t1 t2 l1 l2).objs.size = s.heap.objs.size + 2 := by rw [Heap.size_push, z1]
  have z3 : (zp3 s.heap t1 t2 l1 l2).objs.size = s.heap.objs.size + 3 := by rw [Heap.size_push, z2]
  have z4 : (zp4 s.heap t1 t2 l1 l2).objs.size = s.heap.objs.size + 4 := by rw [Heap.size_push, z3]
  have u5 : ∀ c o, (zp4 s.heap t1 t2 l1 l2).get? c = some o → (zp5 s.heap t1 t2 l1 l2).get? c = some o := fun c o g => Heap.get?_push_of_some _ g
  have u4 : ∀ c o, (zp3 s.heap t1 t2 l1 l2).get? c = some o → (zp5 s.heap t1 t2 l1 l2).get? c = some o := fun c o g => u5 c o (Heap.get?_push_of_some _ g)
  have u3 : ∀ c o, (zp2 s.heap t1 t2 l1 l2).get? c = some o → (zp5 s.heap t1 t2 l1 l2).get? c = some o := fun c o g => u4 c o (Heap.get?_push_of_some _ g)
  have u2 : ∀ c o, (zp1 s.heap t1 l1).get? c = some o → (zp5 s.heap t1 t2 l1 l2).get? c = some o := fun c o g => u3 c o (Heap.get?_push_of_some _ g)
  have g5 : (zp5 s.heap t1 t2 l1 l2).get? (zp4 s.heap t1 t2 l1 l2).objs.size = some _ := Heap.get?_push_size _ rfl
  have g4 : (zp5 s.heap t1 t2 l1 l2).get? (zp3 s.heap t1 t2 l1 l2).objs.size = some _ := u5 _ _ (Heap.get?_push_size _ rfl)
  have g3 : (zp5 s.heap t1 t2 l1 l2).get? (zp2 s.heap t1 t2 l1 l2).objs.size = some _ := u4 _ _ (Heap.get?_push_size _ rfl)
  have i2 : SIt (zp5 s.heap t1 t2 l1 l2) t2 (zp1 s.heap t1 l1).objs.size l2 0 := SIt.new.at fun o g => u3 _ o g
  have i1 : SIt (zp5 s.heap t1 t2 l1 l2) t1 s.heap.objs.size l1 0 := SIt.new.at fun o g => u2 _ o g
  show _ ∧ _
  rw [z2, z3, z4] at g5
  rw [z1, z2] at g3
  rw [z3] at g4
  rw [z1] at i2
  rw [z4]
  exact ⟨⟨_, g5, rfl⟩, k _ ⟨_, _, g5, g3, g4, i1, i2⟩ fun c o g => u2 c o (Heap.get?_push_of_some _ g)⟩
end
def Sq (K : PySem.W.Frag) (tp : Bool) (H : Hp) (l : Addr) (xs : List V) : Prop := if tp then SqT K H l xs else SqL K H l xs
section
variable {X : Cx} {pins : List (Addr × Obj)} {σ : St} {H : Hp} {s : Shared}
theorem Inv.sq {tp : Bool} {l : Addr} {xs : List V} (I : Inv X pins σ H s) (h : Sq X.K tp H l xs) : ∃ its : List Value, Vals xs its ∧ SOf s.heap tp l its.toArray ∧ l < s.heap.objs.size := by
  cases tp with
  | true =>
    obtain ⟨its, r, pl, z⟩ := I.tuple h
    obtain ⟨o, g, _⟩ := id pl
    exact ⟨its, r, pl, Heap.lt_size g⟩
  | false =>
    obtain ⟨its, r, pl, z⟩ := I.list h
    obtain ⟨o, g, _⟩ := id pl.isList
    exact ⟨its, r, pl.isList, Heap.lt_size g⟩
theorem Inv.sq_inj {tp : Bool} {l : Addr} {xs ys : List V} (I : Inv X pins σ H s) (h : Sq X.K tp H l xs) (h' : Sq X.K tp H l ys) : xs = ys := by
  cases tp with
  | true => exact I.tuple_inj h h'
  | false => exact I.list_inj h h'
end
section
variable {X : Cx} {pins : List (Addr × Obj)} {σ : St} {H : Hp} {s : Shared} {h' : Heap}
theorem Inv.turnedM {ch : List Addr} {t' : Nat} (I : Inv X pins σ H s) (k : ∀ b u, b ∉ ch → s.heap.get? b = some u → h'.get? b = some u) (hf : ∀ b ∈ ch, FpOk X pins H b) : Inv X pins σ H { s with heap := h', toks := t' } := by
  have nit : ∀ b u, H b = some u → b ∉ ch := fun b u e z => by rw [(hf b z).1] at e; cases e
  refine I.step (g' := s.gens) (d' := s.drawn) (ch := ch) (fun b hb => ?_) (fun b u _ _ hc e _ => k b u hc e) (fun b u _ _ hc e _ => ⟨u.slots, k b u hc e⟩) (fun b u _ e n => n)
    (fun b u hc e => ⟨u, k b u hc e⟩) (fun b xs e => e) (fun b u xs e => e) (fun b ps e => ⟨#[], by rw [e]; simp⟩) (fun m hm => ?_) (fun b u e => ?_) I.bare
  · obtain ⟨_, f1, _, f3, f4, f5⟩ := hf b hb
    exact ⟨f3, f1, f4, f5⟩
  · obtain ⟨ob, es, ep, ho, r⟩ := hm
    exact ⟨ob, es, ep, k _ ob (fun z => (hf _ z).2.1 rfl) ho, r⟩
  · refine (I.hok b u e).stay (fun c v hc q => k c v ?_ q) (fun c q => q) fun c xs q => q
    rcases hc with rfl | hc
    · exact nit _ u e
    · exact nit c _ hc
end
def Itz (K : PySem.W.Frag) (t1 t2 : Bool) (l1 l2 : Addr) : It :=
  ⟨fun i H => ∃ xs ys x y, Sq K t1 H l1 xs ∧ Sq K t2 H l2 ys ∧ xs[i]? = some x ∧ ys[i]? = some y,
   fun i H x H' => ∃ p u v, H p = none ∧ x = .ref p ∧ H' = upd H p (.tup [u, v]) ∧ ∀ xs ys, Sq K t1 H l1 xs → Sq K t2 H l2 ys → xs[i]? = some u ∧ ys[i]? = some v,
   fun i H => ∃ xs ys, Sq K t1 H l1 xs ∧ Sq K t2 H l2 ys ∧ (xs[i]? = none ∨ ys[i]? = none)⟩
theorem qhc {xs : List V} {us : List Value} {i : Nat} (r : Vals xs us) (h : xs[i]? = none) : us[i]? = none := by
  rw [List.getElem?_eq_none_iff] at h ⊢
  rw [← r.length]
  exact h
theorem turn_zip {P : Program} {w : World} {K : PySem.W.Frag} {es : List Expr} {k : Nat} {tp : Pos} {t1 t2 : Bool} (l1 l2 n : Nat) (b1 : l1 < n) (b2 : l2 < n) :
    Turn P w K (.Tuple es k tp) (Itz K t1 t2 l1 l2) [n, n + 1, n + 2, n + 3, n + 4] (n + 4) (fun i h => ZSt h n t1 t2 l1 l2 i) where
  mem := by simp
  obj := fun i h st b hb => by
    obtain ⟨x, y, gz, gi, go, q1, q2⟩ := st
    have hb' : b = n ∨ b = n + 1 ∨ b = n + 2 ∨ b = n + 3 ∨ b = n + 4 := by simpa using hb
    rcases hb' with rfl | rfl | rfl | rfl | rfl
    · exact q1.obj
    · exact q2.obj
    · exact ⟨_, gi, fun v z => by
        have z' : Data.seq _ _ = Data.cell v := z
        cases z'⟩
    · exact ⟨_, go, fun v z => by
        have z' : Data.seq _ _ = Data.cell v := z
        cases z'⟩
    · exact ⟨_, gz, fun v z => by
        have z' : Data.fields _ = Data.cell v := z
        cases z'⟩
  keep := fun i h h' st kk => by
    obtain ⟨x, y, gz, gi, go, q1, q2⟩ := st
    exact ⟨x, y, kk _ (by simp) _ gz, kk _ (by simp) _ gi, kk _ (by simp) _ go, q1.at fun o z => kk _ (by simp) o z, q2.at fun o z => kk _ (by simp) o z⟩
  item := by
    intro X hP hw hK hc i pins s σ H E I hf st hg
    subst hP hw hK
    obtain ⟨xs, ys, x, y, hq1, hq2, hx, hy⟩ := hg
    obtain ⟨its1, rv1, so1, _⟩ := I.sq hq1
    obtain ⟨its2, rv2, so2, _⟩ := I.sq hq2
    obtain ⟨u1, hu1, ru1⟩ := rv1.get hx
    obtain ⟨u2, hu2, ru2⟩ := rv2.get hy
    obtain ⟨x0, y0, gz, gi, go, q1, q2⟩ := st
    have lt4 : n + 4 < s.heap.objs.size := Heap.lt_size gz
    have hT : s.TypeIs (.ref (n + 4)) "zip" := ⟨_, gz, rfl⟩
    unfold pyNext
    refine wpAny_bind (wpAny_attempt (wpAny_callSpecial?_slot (name := Str.ofString "__next__") hT F.slot_zip_next (wpAny_call_entry F.slot_zip_next hT F.entry_zip_next ?_ (F.args_zip_next_1 _))))
    refine zipNext b1 b2 gz gi go q1 q2 so1 so2 (x := u1) (y := u2) (by simpa using hu1) (by simpa using hu2) fun h' gz' go' r1 r2 hT' hsz kp => ?_
    refine wpAny_pure ?_
    refine ⟨_, rfl, wpAny_letOwnedTupleGo_zip gz' fun h2 gz2 hs2 => ?_⟩
    have kp2 : ∀ b ob, b ∉ [n, n + 1, n + 2, n + 3, n + 4] → s.heap.get? b = some ob → h2.get? b = some ob := fun b ob hb z => by
      have d4 : b ≠ n + 4 := fun q => hb (by simp [q])
      have d3 : b ≠ n + 3 := fun q => hb (by simp [q])
      have d0 : b ≠ n := fun q => hb (by simp [q])
      have d1 : b ≠ n + 1 := fun q => hb (by simp [q])
      exact (hs2.2 b d4).trans (kp b ob d4 d3 d0 d1 z)
    have up2 : ∀ b ob, b ≠ n + 4 → h'.get? b = some ob → h2.get? b = some ob := fun b ob d z => (hs2.2 b d).trans z
    have hT2 : h2.get? s.heap.objs.size = some { cls := .type "tuple", data := .seq #[u1, u2] } := up2 _ _ (Nat.ne_of_gt lt4) hT'
    have fresh : H s.heap.objs.size = none := I.hok.fresh (Nat.le_refl _)
    have new : qbj X.prog X.w (upd H s.heap.objs.size (.tup [x, y])) h2 s.heap.objs.size (.tup [x, y]) := ⟨by show 2 ≤ sizeLine; decide, [u1, u2], .cons ru1 (.cons ru2 .nil), ⟨_, hT2, rfl, _, rfl⟩⟩
    refine ⟨.ref s.heap.objs.size, upd H s.heap.objs.size (.tup [x, y]), I.turnedL kp2 hf (Nat.le_refl _) new, rfl, ⟨_, x, y, fresh, rfl, rfl, fun as bs ha hb => by rw [I.sq_inj ha hq1, I.sq_inj hb hq2]; exact ⟨hx, hy⟩⟩, ⟨_, _, gz2, ?_, up2 _ _ (neN (by omega)) go', r1.at fun o z => up2 _ o (neN (by omega)) z, r2.at fun o z => up2 _ o (neN (by omega)) z⟩, fun b hb => ?_⟩
    · exact up2 _ _ (neN (by omega)) (kp _ _ (neN (by omega)) (neN (by omega)) (neN (by omega)) (neN (by omega)) gi)
    · rw [qag]
      · exact (hf b hb).1
      · have hb' : b = n ∨ b = n + 1 ∨ b = n + 2 ∨ b = n + 3 ∨ b = n + 4 := by simpa using hb
        rcases hb' with rfl | rfl | rfl | rfl | rfl <;> exact neN (by omega)
  done := by
    intro X hP hw hK hc i pins s σ H E I hf st hg
    subst hP hw hK
    obtain ⟨xs, ys, hq1, hq2, hxy⟩ := hg
    obtain ⟨its1, rv1, so1, _⟩ := I.sq hq1
    obtain ⟨its2, rv2, so2, _⟩ := I.sq hq2
    obtain ⟨x0, y0, gz, gi, go, q1, q2⟩ := st
    have hT : s.TypeIs (.ref (n + 4)) "zip" := ⟨_, gz, rfl⟩
    have hend : its1.toArray[i]? = none ∨ its2.toArray[i]? = none := hxy.imp (fun z => by simpa using qhc rv1 z) fun z => by simpa using qhc rv2 z
    unfold pyNext
    refine wpAny_bind (wpAny_attempt (wpAny_callSpecial?_slot (name := Str.ofString "__next__") hT F.slot_zip_next (wpAny_call_entry F.slot_zip_next hT F.entry_zip_next (zipDone (I.ok.hd hc) b1 b2 gz gi go q1 q2 so1 so2 hend fun h' e kp he => ?_) (F.args_zip_next_1 _))))
    obtain ⟨o, ho, hce⟩ := he
    refine wpAny_bind (wpAny_isInstance (T := "StopIteration") (b := true) ⟨o, ho, hce⟩ isSubtype_stop ?_)
    refine wpAny_pure ⟨rfl, ?_⟩
    refine I.turnedM (t' := s.toks) (ch := [n, n + 1, n + 2, n + 3, n + 4]) (fun b ob hb z => ?_) hf
    exact kp b ob (fun q => hb (by simp [q])) (fun q => hb (by simp [q])) (fun q => hb (by simp [q])) (fun q => hb (by simp [q])) z
  self := fun _ _ _ _ _ st h => by
    obtain ⟨x0, y0, gz, gi, go, q1, q2⟩ := st
    exact wpAny_pyIter_zip gz h
def iZip (K : PySem.W.Frag) (ta : TA) : TI := fun σ H R => ta σ H fun vs H1 => ∃ t1 t2 l1 l2 xs ys, vs = [.ref l1, .ref l2] ∧ Sq K t1 H1 l1 xs ∧ Sq K t2 H1 l2 ys ∧ R (Itz K t1 t2 l1 l2) H1
section
variable {X : Cx}
theorem qib {a b : Expr} {ta : TA} {p pos tp : Pos} {es : List Expr} {k : Nat} (hg : Gl X "zip") (hm : X.mg "zip" = none) (ha : PA X [a, b] ta) (hs : starEach [a, b] X.env = (false, eval a X.env) :: starEach [b] X.env := by rfl) (hp : (backTo pos (starEach [b] X.env)).any (·.1) = false := by rfl) :
    PI X (.Tuple es k tp) (.Call (.Name "zip" p) [a, b] [] pos) (iZip X.K ta) := by
  intro pins s σ H R I h
  refine Call_ (yf0 I hg hm qj4 (PyProof.Rows.callWith_type1 (thn (ha pos pins s σ H _ I h) fun us s1 ⟨vs, H1, I1, r1, q1⟩ => ?_) hs hp))
  obtain ⟨t1, t2, l1, l2, xs, ys, e, hq1, hq2, q⟩ := q1
  subst e
  cases r1 with
  | cons r rr =>
    cases rr with
    | cons r2 rr =>
      cases rr
      cases r
      cases r2
      obtain ⟨its1, rv1, so1, b1⟩ := I1.sq hq1
      obtain ⟨its2, rv2, so2, b2⟩ := I1.sq hq2
      refine yj1 so1 so2 fun h' st kp => ?_
      obtain ⟨x0, y0, gz, gi, go, i1, i2⟩ := id st
      refine wpAny_pyIter_zip gz ⟨_, [s1.heap.objs.size, s1.heap.objs.size + 1, s1.heap.objs.size + 2, s1.heap.objs.size + 3, s1.heap.objs.size + 4], _, Itz X.K t1 t2 l1 l2, H1, rfl, I1.kept (t' := s1.toks) kp, turn_zip l1 l2 s1.heap.objs.size b1 b2, st, fun b hb => ?_, q⟩
      have hb' : s1.heap.objs.size ≤ b := by
        have hb' : b = s1.heap.objs.size ∨ b = s1.heap.objs.size + 1 ∨ b = s1.heap.objs.size + 2 ∨ b = s1.heap.objs.size + 3 ∨ b = s1.heap.objs.size + 4 := by simpa using hb
        rcases hb' with rfl | rfl | rfl | rfl | rfl
        · exact Nat.le_refl _
        · exact Nat.le_add_right ..
        · exact Nat.le_add_right ..
        · exact Nat.le_add_right ..
        · exact Nat.le_add_right ..
      exact I1.fpOk hb' (I1.hok.fresh hb')
end
theorem yel : bootBuiltins "sorted" = some (.builtin "sorted") := by decide +kernel
theorem ygu : ∀ {us : List Value} {ns : List Int}, IntsAre us ns → Vals (ns.map V.int) us
  | _, _, .nil => .nil
  | _, _, .cons n t r => .cons ⟨t, rfl⟩ (ygu r)
section
variable {X : Cx}
end
theorem qdx : bootBuiltins "all" = some (.builtin "all") := by decide +kernel
section
variable {X : Cx}
def rAllB : List V → Hp → VK → Prop := fun xs H Q => ∃ (l : Addr) (bs : List Bool), xs = [.ref l] ∧ H l = some (.lst (bs.map V.bl)) ∧ Q (.bl (bs.all id)) H
theorem yj8 (bs : List Bool) : (List.range bs.length).all (fun i => bs.getD i false) = bs.all id := by
  rw [Bool.eq_iff_iff, List.all_eq_true, List.all_eq_true]
  constructor
  · intro h b hb
    obtain ⟨i, hi, e⟩ := List.getElem_of_mem hb
    have := h i (List.mem_range.mpr hi)
    rw [List.getD_eq_getElem?_getD, List.getElem?_eq_getElem hi] at this
    rw [← e]; exact this
  · intro h i hi
    have hi' := List.mem_range.mp hi
    rw [List.getD_eq_getElem?_getD, List.getElem?_eq_getElem hi']
    exact h _ (List.getElem_mem hi')
theorem truth_bs {P : Program} {w : World} {A : Around} (bs : List Bool) : TruthOf P w A (fun i v => (bs.map Value.bool).toArray[i]? = some v) (fun i => bs.getD i false) := by
  intro i v s Q E hP hQ
  have hP' : (bs.map Value.bool)[i]? = some v := by simpa using hP
  rw [List.getElem?_map] at hP'
  cases e : bs[i]? with
  | none => rw [e] at hP'; cases hP'
  | some b =>
    rw [e] at hP'
    cases hP'
    have hQ' : Q (bs.getD i false) s := hQ
    rw [List.getD_eq_getElem?_getD, e] at hQ'
    exact wpAny_truthy_bool hQ'
theorem ydv (hc : X.calm = true) : ycz X (.builtin "all") rAllB := by
  intro pins s σ H xs us Q I r h
  obtain ⟨l, bs, rfl, hH, q⟩ := h
  cases r with
  | cons r rr =>
    cases rr
    cases r
    obtain ⟨z, its, n, rv, hl, e⟩ := I.lstM hH
    have hi := rv.bls
    subst hi
    have hlt : l < s.heap.objs.size := Heap.lt_size e
    refine call_all_walk (wpAny_pyIter_list (items := (bs.map Value.bool).toArray) ⟨_, e, rfl, n, rfl⟩ ⟨_, _, _, _, _, _, _, rfl, Walks.list (by simpa using I.ok.hd hc) s.heap.objs.size l (Nat.ne_of_lt hlt) (bs.map Value.bool).toArray, ⟨⟨_, Heap.get?_push_size _ rfl, rfl, rfl⟩, ⟨_, Heap.get?_push_of_some _ e, rfl, n, rfl⟩⟩, truth_bs bs, fun h' tk hk => ?_⟩)
    rw [List.size_toArray, List.length_map, yj8]
    refine ⟨.bl (bs.all id), H, I.kept fun b o g => hk b o ?_ (Heap.get?_push_of_some _ g), rfl, q⟩
    intro hb
    rw [List.mem_singleton] at hb
    exact absurd (Heap.lt_size g) (by rw [hb]; exact Nat.lt_irrefl _)
end
section
variable {X : Cx} {a b : Expr} {ta tb : TE} {pos : Pos}
def rCatS (K : PySem.W.Frag) : R2 := fun x y H Q => ∃ l b xs zs, x = .ref l ∧ y = .ref b ∧ SqL K H l xs ∧ SqL K H b zs ∧ xs.length + zs.length ≤ sizeLine ∧ ∀ p, H p = none → Q (.ref p) (upd H p (.lst (xs ++ zs)))
theorem op_catS : OpR X (binaryOp .Add) (rCatS X.K) := by
  intro pins s σ H x y v u Q I rx ry h
  obtain ⟨l, b, xs, zs, rfl, rfl, hH, hB, hz, q⟩ := h
  cases rx
  cases ry
  obtain ⟨vs, r, pl, _⟩ := I.list hH
  obtain ⟨ws, r2, pl2, _⟩ := I.list hB
  obtain ⟨⟨cls, dd, data, sl⟩, ho, hc, n, hd⟩ := pl.isList
  obtain ⟨⟨cls2, dd2, data2, sl2⟩, ho2, hc2, n2, hd2⟩ := pl2.isList
  simp only at hc hd hc2 hd2
  subst hc hd hc2 hd2
  have l1 := r.length
  have l2 := r2.length
  refine concat_meets ⟨_, ho, rfl⟩ ⟨_, ho2, rfl⟩ noFill_list_add seq_list_add PySem.F.slot_list_add PySem.F.entry_list_add (PySem.F.args_list_add_2 _ _) (list_addW l b vs.toArray ws.toArray n n2 dd dd2 sl sl2 (by simp; omega)) ⟨ho, ho2, ?_⟩
  have ea : vs.toArray ++ ws.toArray = (vs ++ ws).toArray := by simp
  rw [ea]
  exact ⟨.ref _, _, I.lnew (t' := s.toks) (r.append r2) (by rw [List.length_append]; omega), rfl, q _ I.fresh⟩
end
section
variable {κ : Type} [DecidableEq κ]
end
section
variable {P : Program} {w : World} {H : Hp} {h : Heap} {a : Addr}
end
section
variable {X : Cx} {pins : List (Addr × Obj)} {σ : St} {H : Hp} {s : Shared} {a : Addr} {y v : V} {u r : Value} {o : Option V} {A : Around} {E : Value → Shared → Prop}
theorem Inv.big (I : Inv X pins σ H s) : sysModules < s.heap.objs.size := by
  have h : mainGlobals < s.heap.objs.size := (I.mod.glob.keeps I.bk).lt
  exact Nat.lt_trans (by decide) h
end
section
variable {X : Cx} {pins : List (Addr × Obj)} {σ : St} {H : Hp} {s : Shared} {a : Addr} {kvs : List (Key × V)} {k : Key} {u : Value} {A : Around} {E : Value → Shared → Prop}
end
section
variable {X : Cx} {o i e value : Expr} {pos pos' tpos : Pos} {td ty tv : TE}
end
theorem dk_empty {P : Program} {w : World} {H : Hp} (h : Heap) (hb : sysModules < h.objs.size) : qbj P w H (h.push { cls := .type "dict", data := .dict #[] }) h.objs.size (.dK []) :=
  ⟨Nat.zero_le _, beq_eq_false_iff_ne.mpr (Ne.symm (Nat.ne_of_lt hb)), [], .nil, Heap.DictOf.new h⟩
def tDNewK : TE := fun _ H Q => ∀ p, H p = none → Q (.ref p) (upd H p (.dK []))
section
variable {X : Cx} {pos : Pos}
theorem yif : PE X (.Dict [] [] pos) tDNewK := fun pins s σ H Q I h =>
  wpAny_Dict_empty ⟨.ref s.heap.objs.size, _, I.laid (a := s.heap.objs.size) (o := .dK []) (t' := s.toks) (fun _ _ q => Heap.get?_push_of_some _ q) (Nat.le_refl _) (dk_empty s.heap I.big), rfl, h _ (I.hok.fresh (Nat.le_refl _))⟩
end
section
variable {X : Cx} {pins : List (Addr × Obj)} {σ : St} {H : Hp} {s : Shared} {a : Addr} {y d : V} {u r : Value} {o : Option V} {A : Around} {E : Value → Shared → Prop}
end
section
variable {X : Cx} {o e f : Expr} {apos cpos : Pos} {td ty tx : TE}
end
section
variable {X : Cx} {pins : List (Addr × Obj)} {σ : St} {H : Hp} {s : Shared} {a : Addr} {kvs : List (Key × V)} {A : Around} {E : Value → Shared → Prop}
end
section
variable {X : Cx} {pins : List (Addr × Obj)} {σ : St} {H : Hp} {s : Shared} {a : Addr} {y : V} {u : Value} {A : Around} {E : Value → Shared → Prop}
end
section
variable {X : Cx}
end
section
variable {κ : Type} [DecidableEq κ]
end
end L2
namespace Mx
open PySem L2 PyProof.Rows
structure QE (X : Cx) (e : Expr) (t : TE) : Prop where
  of : PE X e t
section
variable {X : Cx} {e o i : Expr} {te td ty : TE} {pos : Pos}
theorem qab (h : PE X e te) : QE X e te := ⟨h⟩
theorem yar {i : Nat} {x : Str} {pos' : Pos} (hN : X.N.Nodup) (hi : X.N[i]? = some x) (hx : Loc X.env.scope x) (he : QE X e te) (hs : swapsWith e (some (.Name x pos')) pos.line X.env = pure false := by rfl) (hf : X.fn x = true ∨ X.env.scope.names.lookup x = some .local := by first | exact .inl rfl | exact .inr rfl | assumption) :
    QS X (.Assign [.Name x pos'] e pos) (tAsg te (yft i)) := ⟨qbq hN hi hx he.of hs hf⟩
theorem qay (he : QE X e te) : QS X (.Return (some e) pos) (tRet te) := ⟨qaw he.of⟩
structure QT (X : Cx) (e : Expr) (t : TT) : Prop where
  of : PT X e t
theorem qt_of {t : TT} (h : PT X e t) : QT X e t := ⟨h⟩
theorem ybc {a b : List Stmt} {t u : TS} {c : Expr} {tc : TT} (hc : QT X c tc) (ha : QSs X a t) (hb : QSs X b u) : QS X (.If c a b pos) (tIfS tc t u) := ⟨qb4 hc.of ha.of hb.of⟩
def tTStrs (xs : List Str) : TE := fun _ H Q => xs.length ≤ sizeLine ∧ ∀ p, H p = none → Q (.ref p) (upd H p (.tup (xs.map V.str)))
theorem qe_tstrs {es : List Expr} {k} {xs : List Str} (h : yfd es = some xs) : QE X (.Tuple es k pos) (tTStrs xs) := ⟨by
  intro pins s σ H Q I hq
  refine yeg (yhp h) pins s σ H Q I ?_
  exact ⟨by rw [List.length_map]; exact hq.1, hq.2⟩⟩
theorem qe_strs {es : List Expr} {xs : List Str} (h : yfd es = some xs) : QE X (.List es pos) (tStrs xs) := ⟨qjm h⟩
theorem qa6 {a b : Expr} {ta tb : TE} {op : CmpOp} {r : R2} (ho : OpR X (compareOp op) r) (ha : QE X a ta) (hb : QE X b tb) (hm : behindInMarks op b = false) : QT X (.Compare a [op] [b] pos) (tTest (tOp r ta tb)) := ⟨qar ho ha.of hb.of hm⟩
theorem qbe {a b : Expr} {ta tb : TE} {r : R2} (hr : IxR X r) (ha : QE X a ta) (hb : QE X b tb) (hs : yjs b) : QE X (.Subscript a b pos) (tOp r ta tb) := ⟨yay hr ha.of hb.of hs⟩
structure QA (X : Cx) (es : List Expr) (t : TA) : Prop where
  of : PA X es t
theorem yad : QA X [] tNil := ⟨yac⟩
theorem ye9 {es : List Expr} {t : TA} (ha : QE X e te) (hr : QA X es t) (hs : starEach (e :: es) X.env = (false, eval e X.env) :: starEach es X.env := by rfl) : QA X (e :: es) (yc4 te t) := ⟨qaa ha.of hr.of hs⟩
theorem qav {es : List Expr} {t : TA} (h : QA X es t) : QE X (.List es pos) (tLst t) := ⟨yb2 h.of⟩
theorem ybh {es : List Expr} {k} {t : TA} (h : QA X es t) : QE X (.Tuple es k pos) (tTup t) := ⟨yeg h.of⟩
end
section
variable {X : Cx} {e a b c : Expr} {es : List Expr} {te ta tb : TE} {t : TA} {tA tB' : TT} {pos p : Pos} {x : Str} {rest : List Expr}
theorem yam {k : Const} {j} (ha : QE X (.Constant k j pos) te) (hr : QA X es t) : QA X (.Constant k j pos :: es) (yc4 te t) := ⟨qgm ha.of hr.of⟩
theorem qak {x : Str} (ha : QE X (.Name x pos) te) (hr : QA X es t) : QA X (.Name x pos :: es) (yc4 te t) := ⟨yci ha.of hr.of⟩
theorem yiy {f xs ks} (ha : QE X (.Call f xs ks pos) te) (hr : QA X es t) : QA X (.Call f xs ks pos :: es) (yc4 te t) := ⟨qdw ha.of hr.of⟩
theorem qe0 {o i : Expr} (ha : QE X (.Subscript o i pos) te) (hr : QA X es t) : QA X (.Subscript o i pos :: es) (yc4 te t) := ⟨qaa ha.of hr.of rfl⟩
theorem qd5 {o i : Expr} {op} (ha : QE X (.BinOp o op i pos) te) (hr : QA X es t) : QA X (.BinOp o op i pos :: es) (yc4 te t) := ⟨qaa ha.of hr.of rfl⟩
theorem yd5 {xs k} (ha : QE X (.Tuple xs k pos) te) (hr : QA X es t) : QA X (.Tuple xs k pos :: es) (yc4 te t) := ⟨qaa ha.of hr.of rfl⟩
theorem yee {xs} (ha : QE X (.List xs pos) te) (hr : QA X es t) : QA X (.List xs pos :: es) (yc4 te t) := ⟨qaa ha.of hr.of rfl⟩
theorem qa_cp {l o r} (ha : QE X (.Compare l o r pos) te) (hr : QA X es t) : QA X (.Compare l o r pos :: es) (yc4 te t) := ⟨qaa ha.of hr.of rfl⟩
theorem ybq {op : Operator} {r : R2} (ho : OpR X (binaryOp op) r) (ha : QE X a ta) (hb : QE X b tb) : QE X (.BinOp a op b pos) (tOp r ta tb) := ⟨qbi ho ha.of hb.of⟩
theorem qe_cmpR {op : CmpOp} {r : R2} (ho : OpR X (compareOp op) r) (ha : QE X a ta) (hb : QE X b tb) (hm : behindInMarks op b = false) : QE X (.Compare a [op] [b] pos) (tOp r ta tb) := ⟨qat ho ha.of hb.of hm⟩
theorem yhx (hc : QT X c tA) (ha : QE X a ta) (hb : QE X b tb) : QE X (.IfExp c a b pos) (tIf tA ta tb) := ⟨yhz hc.of ha.of hb.of⟩
structure QW (X : Cx) (e : Expr) (t : TT) : Prop where
  of : PW X e t
theorem qw_and1 (ha : QT X a tA) : QW X (.BoolOp .And [a] pos) tA := ⟨yc2 ha.of⟩
theorem qhx (ha : QT X a tA) : QW X (.BoolOp .Or [a] pos) tA := ⟨ygr ha.of⟩
theorem qw_and (ha : QT X a tA) (hb : QW X (.BoolOp .And (b :: rest) pos) tB') : QW X (.BoolOp .And (a :: b :: rest) pos) (tAnd tA tB') := ⟨ydi ha.of hb.of⟩
theorem yir (ha : QT X a tA) (hb : QW X (.BoolOp .Or (b :: rest) pos) tB') : QW X (.BoolOp .Or (a :: b :: rest) pos) (tOr tA tB') := ⟨qi7 ha.of hb.of⟩
theorem QW.pt (h : QW X e tA) : QT X e tA := ⟨h.of.pt⟩
theorem ydw (ha : QT X a tA) : QT X (.UnaryOp .Not a pos) (tNot tA) := ⟨qdk ha.of⟩
theorem qcq {f xs ks} (h : QE X (.Call f xs ks pos) te) : QT X (.Call f xs ks pos) (tB te) := ⟨qcz h.of⟩
variable {id T : String} {r : List V → Hp → VK → Prop}
theorem qbv (hc : ycz X (.builtin id) r) (hg : Gl X x) (hm : X.mg x = none) (hv : bootBuiltins x = some (.builtin id)) (ha : QA X (e :: es) t) (hn : x ≠ "__name__" := by decide) (hdb : (x == ("__debug__" : Str)) = false := by decide)
    (he : starEach (e :: es) X.env = (false, eval e X.env) :: starEach es X.env := by rfl) (hpl : (backTo pos (starEach es X.env)).any (·.1) = false := by rfl) : QE X (.Call (.Name x p) (e :: es) [] pos) (tCB r t) := ⟨qae hc hg hm hv ha.of hn hdb he hpl⟩
theorem qbk (hc : ycz X (.type T) r) (hg : Gl X x) (hm : X.mg x = none) (hv : bootBuiltins x = some (.type T)) (ha : QA X (e :: es) t) (hn : x ≠ "__name__" := by decide) (hdb : (x == ("__debug__" : Str)) = false := by decide)
    (he : starEach (e :: es) X.env = (false, eval e X.env) :: starEach es X.env := by rfl) (hpl : (backTo pos (starEach es X.env)).any (·.1) = false := by rfl) : QE X (.Call (.Name x p) (e :: es) [] pos) (tCB r t) := ⟨yc7 hc hg hm hv ha.of hn hdb he hpl⟩
theorem qap {k m : Nat} {ps : List Str} {sp : Sp} (h : Has X.prog X.w X.K X.mg X.base k x ps sp) (hr : Room m X.A) (ha : QA X (e :: es) t) (hk : k ≤ m := by decide) (hg : Gl X x := by rfl)
    (hdb : (x == ("__debug__" : Str)) = false := by decide) (he : starEach (e :: es) X.env = (false, eval e X.env) :: starEach es X.env := by rfl) (hpl : (backTo pos (starEach es X.env)).any (·.1) = false := by rfl) : QE X (.Call (.Name x p) (e :: es) [] pos) (tCall sp [] E0 t) := ⟨qah h hr ha.of hk hg hdb he hpl⟩
structure QI (X : Cx) (tg iter : Expr) (wi : TI) : Prop where
  of : PI X tg iter wi
theorem qi_of {tg iter : Expr} {wi : TI} (h : PI X tg iter wi) : QI X tg iter wi := ⟨h⟩
theorem yhi {tg l : Expr} {tl : TE} (h : QE X l tl) : QI X tg l (iList X.K tl) := ⟨qb5 h.of⟩
theorem qfq {tg iter : Expr} {body : List Stmt} {wi : TI} {g : TG} {tb : TS} (hp : PassesOwn (model X.prog X.w) X.A X.env X.xe) (hc : X.calm = true) (hi : QI X tg iter wi) (hg : PG X tg g) (hb : QSs X body tb) (hs : ∀ x, foldedSetIterable iter X.env x = pure x := by intro _; rfl) : QS X (.For tg iter body [] pos) (tFor wi g tb) := ⟨qc7 hp hc hi.of hg hb.of hs⟩
theorem ybi (he : QE X e te) (hs : swapsWith e none pos.line X.env = pure false := by rfl) : QS X (.Expr e pos) (tDrop te) := ⟨qcb he.of hs⟩
theorem ygn {tg : Expr} {g : TG} (he : QE X e te) (hg : PG X tg g) (hs : swapsWithSole [tg] e pos.line X.env = pure false := by rfl) (hw : swappedStores [tg] e X.env = pure none := by rfl) (h1 : (assignEach [tg] X.env).map (·.2) = [assign tg X.env] := by rfl) : QS X (.Assign [tg] e pos) (tAsg te g) := ⟨qj8 he.of hg hs hw h1⟩
end
theorem yan {X : Cx} {st : Stmt} {rest ss : List Stmt} {t : TS} (h : ss = st :: rest) (p : QSs X (st :: rest) t) : QSs X ss t := h ▸ p
section
variable {P : Program} {w : World} {K : PySem.W.Frag} {mg : Str → Option Value} {base : Heap}
theorem Has.ofQ {x : Str} {st : Stmt} {ps N : List Str} {k : Nat} {sp : Sp} (F : FnAt K mg x st ps) (S : FnScope N ps (yab st)) (len : ∀ vs H Q E, sp vs H Q E → vs.length = ps.length)
    (hbody : ∀ (f : Addr) (cdv : Value) (A : Around) (outer : List Env) (s : Shared) (H : Hp) (vs : List V) (Q : VK) (E : XK), Room k (A.deeper (envOfC x (yab st) s.heap.objs.size f cdv)) → sp vs H Q E →
      ∃ t, QSs (cxOf CX0 P w K mg base N x (yab st) f cdv A outer s H E).nox (yag st) t ∧ t { nx := fun _ H' => Q .non H', rt := Q } (ydo N vs) H) : Has P w K mg base (k + 1) x ps sp :=
  Has.of F S len fun f cdv A outer s H vs Q E hr h => by
    obtain ⟨t, h1, h2⟩ := hbody f cdv A outer s H vs Q E hr h
    exact ⟨t, h1.of, h2⟩
theorem Fun.okQ {x qual : Str} {st : Stmt} {f : Addr} {fd : FuncData} {N ps : List Str} {k : Nat} {sp : Sp} (F : Fun K x qual st f fd) (S : FnScope N ps (yab st)) (len : ∀ vs H Q E, sp vs H Q E → vs.length = ps.length)
    (hbody : ∀ (cdv : Value) (A : Around) (outer : List Env) (s : Shared) (H : Hp) (vs : List V) (Q : VK) (E : XK), Room k (A.deeper (envOfC qual (yab st) s.heap.objs.size f cdv)) → sp vs H Q E →
      ∃ t, QSs (cxOf CX0 P w K mg base N qual (yab st) f cdv A outer s H E).nox (yag st) t ∧ t { nx := fun _ H' => Q .non H', rt := Q } (ydo N vs) H) : FnOk P w K mg base CX0 (k + 1) f fd ps sp :=
  F.ok S len fun cdv A outer s H vs Q E hr h => by
    obtain ⟨t, h1, h2⟩ := hbody cdv A outer s H vs Q E hr h
    exact ⟨t, h1.of, h2⟩
end
def ycf (K : PySem.W.Frag) (C : Addr) (m qual : Str) (st : Stmt) (ps : List Str) : Prop := ∃ f fd, Meth K C m f ∧ Fun K m qual st f fd ∧ qck K fd ps []
def HasM (P : Program) (w : World) (K : PySem.W.Frag) (mg : Str → Option Value) (base : Heap) (C : Addr) (k : Nat) (m : Str) (ps : List Str) (sp : Sp) : Prop :=
  ∃ f fd, Meth K C m f ∧ qck K fd ps [] ∧ FnOk P w K mg base CX0 k f fd ps sp
def HasI (P : Program) (w : World) (K : PySem.W.Frag) (mg : Str → Option Value) (base : Heap) (C : Addr) (k : Nat) (x : Str) (ps : List Str) (sp : Sp) : Prop :=
  ∃ f fd, mg x = some (.ref C) ∧ Mk K C f ∧ qck K fd ps [] ∧ FnOk P w K mg base CX0 k f fd ps sp
section
variable {P : Program} {w : World} {K : PySem.W.Frag} {mg : Str → Option Value} {base : Heap} {C : Addr}
theorem HasM.ofQ {m qual : Str} {st : Stmt} {ps N : List Str} {k : Nat} {sp : Sp} (F : ycf K C m qual st ps) (S : FnScope N ps (yab st)) (len : ∀ vs H Q E, sp vs H Q E → vs.length = ps.length)
    (hbody : ∀ (f : Addr) (cdv : Value) (A : Around) (outer : List Env) (s : Shared) (H : Hp) (vs : List V) (Q : VK) (E : XK), Room k (A.deeper (envOfC qual (yab st) s.heap.objs.size f cdv)) → sp vs H Q E →
      ∃ t, QSs (cxOf CX0 P w K mg base N qual (yab st) f cdv A outer s H E).nox (yag st) t ∧ t { nx := fun _ H' => Q .non H', rt := Q } (ydo N vs) H) : HasM P w K mg base C (k + 1) m ps sp := by
  obtain ⟨f, fd, h1, h2, h3⟩ := F
  exact ⟨f, fd, h1, h3, Mx.Fun.okQ h2 S len fun cdv A outer s H vs Q E hr h => hbody f cdv A outer s H vs Q E hr h⟩
theorem HasI.of {x m : Str} {ps : List Str} {k : Nat} {sp : Sp} {f : Addr} (hm : mg x = some (.ref C)) (M : Mk K C f) (u : ∀ g, Meth K C "__init__" g → g = f) (h : HasM P w K mg base C k "__init__" ps sp) : HasI P w K mg base C k x ps sp := by
  obtain ⟨g, fd, h1, h2, h3⟩ := h
  have := u g h1
  subst this
  exact ⟨g, fd, hm, M, h2, h3⟩
theorem yjx {m : Str} {f g : Addr} (a : PySem.W.findIn K (.ref C) m = some (some (.ref f))) (b : Meth K C m g) : g = f := by
  have := b.at_
  rw [a] at this
  cases this
  rfl
end
section
variable {X : Cx} {e o value : Expr} {es : List Expr} {te ta tv : TE} {t : TA} {pos p apos pos' : Pos} {C : Addr} {m x f : Str}
theorem qe_methH {k n : Nat} {ps : List Str} {sp : Sp} {pl : Sem Bool} (c : Cls X.K C) (h : HasM X.prog X.w X.K X.mg X.base C k m ps sp) (hr : Room n X.A) (he : QE X o ta) (ha : QA X (e :: es) t) (hk : k ≤ n := by decide)
    (hst : starEach (e :: es) X.env = (false, eval e X.env) :: starEach es X.env := by rfl) (hpl : (backTo pos (starEach es X.env)).any (·.1) = false := by rfl)
    (ht : eval (.Call (.Attribute o m apos) (e :: es) [] pos) X.env = (do
      let ov ← eval o X.env
      standAt apos.atName
      let (f, first) ← holding [ov] (getMethod ov m pl)
      callWith pos f first (backTo pos (starEach (e :: es) X.env)) (backToKw pos (keywordEach [] X.env))) := by rfl) :
    QE X (.Call (.Attribute o m apos) (e :: es) [] pos) (qjf C m sp [] E0 ta t) := by
  obtain ⟨f, fd, h1, h2, h3⟩ := h
  exact ⟨ykm (pl := pl) he.of c h1 h3 (hr.mono hk) h2 .nil pass0 ha.of hst hpl ht⟩
theorem ygv {k n : Nat} {ps : List Str} {sp : Sp} {pl : Sem Bool} (c : Cls X.K C) (h : HasM X.prog X.w X.K X.mg X.base C k m ps sp) (hr : Room n X.A) (he : QE X o ta) (hk : k ≤ n := by decide)
    (ht : eval (.Call (.Attribute o m apos) [] [] pos) X.env = (do
      let ov ← eval o X.env
      standAt apos.atName
      let (f, first) ← holding [ov] (getMethod ov m pl)
      callWith pos f first (backTo pos (starEach [] X.env)) (backToKw pos (keywordEach [] X.env))) := by rfl) :
    QE X (.Call (.Attribute o m apos) [] [] pos) (qjf C m sp [] E0 ta tNil) := by
  obtain ⟨f, fd, h1, h2, h3⟩ := h
  exact ⟨pe_meth0 (pl := pl) he.of c h1 h3 (hr.mono hk) h2 .nil pass0 ht⟩
theorem qe_makeH {k n : Nat} {ps : List Str} {sp : Sp} (h : HasI X.prog X.w X.K X.mg X.base C k x ps sp) (hr : Room n X.A) (ha : QA X (e :: es) t) (hk : k + 1 ≤ n := by decide) (hg : Gl X x := by rfl)
    (hdb : (x == ("__debug__" : Str)) = false := by decide) (he : starEach (e :: es) X.env = (false, eval e X.env) :: starEach es X.env := by rfl) (hpl : (backTo pos (starEach es X.env)).any (·.1) = false := by rfl) :
    QE X (.Call (.Name x p) (e :: es) [] pos) (tMake C sp [] E0 t) := by
  obtain ⟨f, fd, h0, h1, h2, h3⟩ := h
  exact ⟨pe_make h1 h3 (hr.mono hk) hg h0 h2 .nil pass0 ha.of hdb he hpl⟩
theorem qc9 (he : QE X e ta) (hb : attributeBase e f X.env (eval e X.env) = eval e X.env) : QE X (.Attribute e f pos) (tFld X.K ta f) := ⟨pe_fld he.of hb⟩
theorem qif (ha : QE X o ta) (hv : QE X value tv) (hs : swapsWith value (some (.Attribute o f pos')) pos.line X.env = pure false) : QS X (.Assign [.Attribute o f pos'] value pos) (sFld X.K ta tv f) := ⟨ps_fld ha.of hv.of hs⟩
theorem qfd {b : Expr} {g : Str} (ha : QE X (.Attribute b g pos) te) (hr : QA X es t) : QA X (.Attribute b g pos :: es) (yc4 te t) := ⟨qaa ha.of hr.of rfl⟩
end
end Mx
namespace L2
open PySem PySem.Spec PyProof.Rows
section
variable {X : Cx}
end
end L2
namespace L2
open PySem PySem.Spec PyProof.Rows PySem.W
structure Fly (h : Heap) (H : Hp) (a T : Addr) : Prop where
  ob : ∃ o vs, h.get? a = some o ∧ o.data = .fields vs ∧ vs[1]? = some (.ref T)
  ne : T ≠ a
  fr : H T = none
  tb : ∃ oT ts, h.get? T = some oT ∧ oT.data = .fields ts ∧ ts[3]? = some .none
def CX1 (P : Program) (w : World) : CXT := fun outer H s E e s' => ∃ a T C dx H', e = .ref a ∧ s'.os = s.os ∧ AllBare s'.gens ∧ Un (frs outer) [] H H' s.heap s'.heap ∧ HOk P w H' s'.heap ∧
  H' a = some (.ext (qce a C dx)) ∧ Fly s'.heap H' a T ∧ E (.ref a) none H'
def Raw (h : Heap) (a : Addr) : Prop := ∃ o vs, h.get? a = some o ∧ o.data = .fields vs ∧ vs[1]? = some .none
theorem setSame {ts : Array Value} {i : Nat} {v : Value} (h : ts[i]? = some v) : ts.setIfInBounds i v = ts := by
  apply Array.ext_getElem?
  intro j
  by_cases e : i = j
  · subst e
    rw [Array.getElem?_setIfInBounds_self_of_lt (Array.getElem?_eq_some_iff.mp h).1, h]
  · rw [Array.getElem?_setIfInBounds_ne e]
theorem yi7 {o : Obj} {ts : Array Value} {i : Nat} {v : Value} (hd : o.data = .fields ts) (h : ts[i]? = some v) : Obj.mapFields (·.setIfInBounds i v) o = o := by
  obtain ⟨c, d, dt, sl⟩ := o
  simp only at hd
  subst hd
  unfold Obj.mapFields
  simp only [setSame h]
theorem mapDict (f : Array Value → Array Value) (o : Obj) : (Obj.mapFields f o).dict = o.dict := by
  obtain ⟨c, d, dt, sl⟩ := o
  cases dt <;> rfl
section
variable {X : Cx} {pins : List (Addr × Obj)} {σ : St} {H : Hp} {s : Shared} {a C : Addr} {dx : Option Addr}
theorem fly_un {h1 h' : Heap} {T' : Addr} (I : Inv X pins σ H s) (ha : H a = some (.ext (qce a C dx))) (h1s : Heap.SlotsOnly (frs X.stack) s.heap h1) (hT : T' = h1.objs.size)
    (keep : ∀ b o, b ≠ a → h1.get? b = some o → h'.get? b = some o) (hx : qce a C dx h') : Un (frs X.stack) [] H H s.heap h' ∧ HOk X.prog X.w H h' ∧ H T' = none ∧ s.heap.get? T' = none := by
  have na : ∀ b, H b = none → b ≠ a := fun b n z => by subst z; rw [ha] at n; cases n
  have hz : s.heap.objs.size = T' := by rw [hT, h1s.1]
  refine ⟨⟨fun b o e n hb _ => keep b o (na b n) ((h1s.2.1 b hb).trans e), fun b o e n hb _ => ?_, fun _ _ _ n _ => n, fun b o e _ => ?_, fun _ _ q => q, fun _ _ _ q => q, fun b ps q => ⟨#[], by rw [q]; simp⟩⟩, fun b u e => ?_, I.hok.fresh (by omega), Heap.get?_none_of_le (by omega)⟩
  · obtain ⟨sl, q⟩ := h1s.2.2 b o e
    exact ⟨sl, keep b _ (na b n) q⟩
  · by_cases hb : b = a
    · subst hb; obtain ⟨o, _, q, _⟩ := hx; exact ⟨o, q⟩
    · obtain ⟨sl, q⟩ := h1s.2.2 b o e
      exact ⟨_, keep b _ hb q⟩
  · by_cases hb : b = a
    · subst hb
      rw [ha] at e; cases e
      exact qh4 hx
    · refine (I.hok b u e).stay (fun c v hc q => ?_) (fun _ q => q) fun _ _ q => q
      have hcH : H c ≠ none := by
        rcases hc with z | z
        · rw [z, e]; simp
        · rw [z]; simp
      have hca : c ≠ a := by
        rcases hc with z | z
        · rw [z]; exact hb
        · intro z2; rw [z2, ha] at z; cases z
      exact keep c v hca ((h1s.2.1 c fun z => hcH (I.stkFree c z)).trans q)
theorem qic {M : Model} {E : Value → Shared → Prop} {Q : Unit → Shared → Prop} (I : Inv X pins σ H s) (hs : X.stack = X.env :: X.outer) (hf : X.env.frame = some X.env.locals) (ha : H a = some (.ext (qce a C dx)))
    (st : Raw s.heap a ∨ ∃ T, Fly s.heap H a T)
    (k : ∀ h' T', Inv X pins σ H { s with heap := h' } → Fly h' H a T' → s.heap.get? T' = none → Q () { s with heap := h' }) :
    wpAny M X.A (noteFrame (.ref a) X.env) (fun _ s1 => wpAny M X.A (setFlight (.ref a) none) Q E s1) E s := by
  have hfr : X.A.frames = some (X.env :: X.outer) := by rw [← hs]; exact I.ok.frames
  have hl : s.heap.FunFrames X.base (X.env :: X.outer) := by rw [← hs]; exact I.stack
  obtain ⟨⟨o0, vs0, e0, c0, d0, dt0⟩, _⟩ := I.hok a _ ha
  have main : ∀ (h : Heap) (head : Value) (vs : Array Value) (o : Obj) (hadNext : Bool), (∀ b, h.get? b = s.heap.get? b) → h.objs.size = s.heap.objs.size → s.heap.get? a = some o → o.data = .fields vs → 1 < vs.size →
      wpAny M X.A (do let x ← frameOf X.env; let pl ← entryPlaceOf X.env.locals hadNext; let b ← EntryCells.newEntry head x .none (rawInt X.env.locals) .none pl; setField (.ref a) 1 b) (fun _ s' => wpAny M X.A (setFlight (.ref a) none) Q E s') E { s with heap := h } := by
    intro h head vs o hadNext hg hsz he hd hvs
    have hl' : h.FunFrames X.base (X.env :: X.outer) := hl.of_keeps fun b o q _ => ⟨o, (hg b).trans q, rfl⟩
    have hene : a ∉ (X.env :: X.outer).filterMap (·.frame) := fun hm => by
      have := I.stkFree a (by rw [hs]; exact hm)
      rw [ha] at this; cases this
    refine wpAny_bind (wpAny_frameOf_fun (s := { s with heap := h }) hfr hl' hf fun h₁ hs₁ => ?_)
    have hs₁' : Heap.SlotsOnly (frs X.stack) s.heap h₁ := by
      rw [hs]
      exact ⟨hs₁.1.trans hsz, fun b hb => (hs₁.2.1 b hb).trans (hg b), fun b o q => hs₁.2.2 b o ((hg b).trans q)⟩
    refine wpAny_bind (wpAny_entryPlaceOf fun pl hpl => ?_)
    unfold EntryCells.newEntry newFields
    refine wpAny_bind (wpAny_newObj_type ?_ (hpl.sizeOk5 _ _ _ _ _))
    have he₁ : h₁.get? a = some o := (hs₁.2.1 a hene).trans ((hg a).trans he)
    have he₂ := Heap.get?_push_of_some (h := h₁) { cls := .type "traceback", dict := none, data := .fields ([head, .ref X.env.locals, .none, rawInt X.env.locals, .none] ++ (if pl.isEmpty then List.replicate 6 Value.none else pl)).toArray } he₁
    refine wpAny_setField he₂ hd hvs ?_
    have hTe : h₁.objs.size ≠ a := Nat.ne_of_gt (Heap.lt_size he₁)
    have hd₃ := Obj.data_mapFields hd (·.setIfInBounds 1 (Value.ref h₁.objs.size))
    have he₃ := Heap.get?_update_self (Obj.mapFields (·.setIfInBounds 1 (Value.ref h₁.objs.size))) he₂ (Obj.isFreed_of_fields hd₃)
    have hT₃ := (Heap.get?_update_other (h₁.push { cls := .type "traceback", dict := none, data := .fields ([head, .ref X.env.locals, .none, rawInt X.env.locals, .none] ++ (if pl.isEmpty then List.replicate 6 Value.none else pl)).toArray })
      (Obj.mapFields (·.setIfInBounds 1 (Value.ref h₁.objs.size))) (Ne.symm hTe)).trans (Heap.get?_push_size h₁ rfl)
    unfold setFlight
    refine wpAny_bind (wpAny_field he₃ hd₃ (x := .ref h₁.objs.size) (by simp [hvs]) ?_)
    rw [if_pos (show (Value.ref h₁.objs.size != Value.none) = true from by simp)]
    refine wpAny_setField hT₃ rfl (by simp only [List.size_toArray, List.length_append, List.length_cons, List.length_nil] <;> omega) ?_
    have keep : ∀ b ob, b ≠ a → h₁.get? b = some ob →
        (((h₁.push { cls := .type "traceback", dict := none, data := .fields ([head, .ref X.env.locals, .none, rawInt X.env.locals, .none] ++ (if pl.isEmpty then List.replicate 6 Value.none else pl)).toArray }).update a (Obj.mapFields (·.setIfInBounds 1 (Value.ref h₁.objs.size)))).update h₁.objs.size
          (Obj.mapFields (·.setIfInBounds 3 ((none : Option Addr).elim Value.none fun f => rawInt f)))).get? b = some ob := fun b ob hbe hb => by
      have hbT : h₁.objs.size ≠ b := Nat.ne_of_gt (Heap.lt_size hb)
      rw [Heap.get?_update_other _ _ hbT, Heap.get?_update_other _ _ (Ne.symm hbe)]
      exact Heap.get?_push_of_some _ hb
    have hea := he₃
    have hT4 := Heap.get?_update_self (Obj.mapFields (·.setIfInBounds 3 ((none : Option Addr).elim Value.none fun f => rawInt f))) hT₃ (Obj.isFreed_of_fields (Obj.data_mapFields rfl _))
    rw [← Heap.get?_update_other _ (Obj.mapFields (·.setIfInBounds 3 ((none : Option Addr).elim Value.none fun f => rawInt f))) hTe] at hea
    revert keep hea hT4
    generalize ((h₁.push { cls := .type "traceback", dict := none, data := .fields ([head, .ref X.env.locals, .none, rawInt X.env.locals, .none] ++ (if pl.isEmpty then List.replicate 6 Value.none else pl)).toArray }).update a (Obj.mapFields (·.setIfInBounds 1 (Value.ref h₁.objs.size)))).update h₁.objs.size
          (Obj.mapFields (·.setIfInBounds 3 ((none : Option Addr).elim Value.none fun f => rawInt f))) = h'
    intro keep hea hT4
    rw [he] at e0; cases e0
    have hx : qce a C dx h' := ⟨_, _, hea, (Obj.cls_mapFields _ _).trans c0, (mapDict _ _).trans d0, hd₃⟩
    obtain ⟨un, ho, fr, nw⟩ := fly_un (T' := h₁.objs.size) I ha hs₁' rfl keep hx
    refine k h' h₁.objs.size (I.call' (s' := { s with heap := h' }) (ch := []) rfl un ho I.bare fun b z => absurd z (by simp)) ⟨⟨_, _, hea, hd₃, by simp [hvs]⟩, hTe, fr, ⟨_, _, hT4, Obj.data_mapFields rfl _, ?_⟩⟩ nw
    first | (simp; done) | (rcases hpl with rfl | ⟨_, _, _, _, _, _, _, rfl⟩ <;> simp)
  rcases st with ⟨o, vs, he, hd, h1⟩ | ⟨T, ⟨⟨o, vs, he, hd, h1⟩, hTa, hTn, oT, ts, hT, hdT, h3⟩⟩
  · unfold noteFrame
    simp only [hf]
    refine wpAny_bind (wpAny_field he hd h1 ?_)
    rw [if_neg (by decide)]
    exact main s.heap _ vs o _ (fun _ => rfl) rfl he hd (Array.getElem?_eq_some_iff.mp h1).1
  · unfold noteFrame
    simp only [hf]
    refine wpAny_bind (wpAny_field he hd h1 ?_)
    rw [if_pos (show (Value.ref T != Value.none) = true from by simp)]
    refine wpAny_bind (wpAny_field hT hdT h3 ?_)
    rw [if_neg (show ¬ ((Value.none == rawInt X.env.locals) = true) from by simp [rawInt])]
    refine wpAny_bind (wpAny_setField hT hdT (Array.getElem?_eq_some_iff.mp h3).1 ?_)
    refine main (s.heap.update T (Obj.mapFields (·.setIfInBounds 3 Value.none))) _ vs o _ (fun b => ?_) (Heap.size_after_update ..) he hd (Array.getElem?_eq_some_iff.mp h1).1
    by_cases hb : b = T
    · subst hb
      rw [hT]
      have := Heap.get?_update_self (Obj.mapFields (·.setIfInBounds 3 Value.none)) hT (Obj.isFreed_of_fields (Obj.data_mapFields hdT _))
      rw [yi7 hdT h3] at this
      exact this
    · exact Heap.get?_update_other _ _ (Ne.symm hb)
end
section
variable {X : Cx} {pins : List (Addr × Obj)} {σ : St} {H : Hp} {s : Shared} {a C : Addr} {dx : Option Addr}
theorem Inv.xq (I : Inv X pins σ H s) (ha : H a = some (.ext (yb5 a C dx))) : Inv X pins σ (upd H a (.ext (qce a C dx))) s := by
  have o := (I.hok a _ ha)
  have w := I.write (x := a) (e := a) (o := .ext (qce a C dx)) (h' := s.heap) (t' := s.toks) (by rw [ha]; exact True.intro) (.inl rfl) (fun _ _ _ e => e) o.2.1 (qh4 o.1.q)
  exact w
theorem raw_of {P : Program} {w : World} {h : Heap} (ok : HOk P w H h) (ha : H a = some (.ext (yb5 a C dx))) : Raw h a := by
  obtain ⟨⟨o, vs, e, _, _, dt, r⟩, _⟩ := ok a _ ha
  exact ⟨o, vs, e, dt, r⟩
end
section
variable {P : Program} {w : World} {K : PySem.W.Frag} {mg : Str → Option Value} {base : Heap} {N : List Str} {qual : Str} {scope : Scope} {f : Addr} {cd : Value} {A : Around} {outer : List Env} {s0 : Shared} {H0 : Hp} {E : XK}
abbrev cxX (P : Program) (w : World) (K : PySem.W.Frag) (mg : Str → Option Value) (base : Heap) (N : List Str) (qual : Str) (scope : Scope) (f : Addr) (cd : Value) (A : Around) (outer : List Env) (s0 : Shared) (H0 : Hp) (E : XK) : Cx :=
  cxOf (CX1 P w) P w K mg base N qual scope f cd A outer s0 H0 E
theorem leaves {pins : List (Addr × Obj)} {σ : St} {H : Hp} {s : Shared} {a C : Addr} {dx : Option Addr} (I : Inv (cxX P w K mg base N qual scope f cd A outer s0 H0 E) pins σ H s) (ha : H a = some (.ext (qce a C dx))) (st : Raw s.heap a ∨ ∃ T, Fly s.heap H a T)
    (hE : E (.ref a) none H) : (cxX P w K mg base N qual scope f cd A outer s0 H0 E).xe (.ref a) s := by
  show wpAny _ _ (leaving _ _) _ _ _
  unfold leaving
  exact wpAny_bind (qic (X := cxX P w K mg base N qual scope f cd A outer s0 H0 E) I rfl rfl ha st fun h' T' I' fl _ => ⟨a, T', C, dx, H, rfl, I'.os, I'.bare, I'.base, I'.hok, ha, fl, hE⟩)
theorem yhe : qdj (CX1 P w) (cxX P w K mg base N qual scope f cd A outer s0 H0 E) E := by
  intro pins σ H s e s' I h
  obtain ⟨a, T, C, dx, H', rfl, ho, hb, un, hok, ha, fl, hE⟩ := h
  exact leaves (I.call' (ch := []) ho un hok hb fun b z => absurd z (by simp)) ha (.inr ⟨T, fl⟩) hE
theorem qh2 : PassesOwn (model P w) (cxX P w K mg base N qual scope f cd A outer s0 H0 E).A (cxX P w K mg base N qual scope f cd A outer s0 H0 E).env (cxX P w K mg base N qual scope f cd A outer s0 H0 E).xe := PassesOwn.leaving
def tRaise (K : PySem.W.Frag) (E : XK) (te : TE) : TS := fun _ σ H => te σ H fun v H1 => ∃ a C dx, v = .ref a ∧ XTy K C ∧ H1 a = some (.ext (yb5 a C dx)) ∧ E (.ref a) none (upd H1 a (.ext (qce a C dx)))
theorem qkg {M : Model} {A : Around} {E : Value → Shared → Prop} {env : Env} {s : Shared} {a C : Addr} {o : Obj} {vs : Array Value} {Q : Flow → Shared → Prop} (X : K.In s.heap) (cx : qem K C = true) (hh : A.handled = none) (hx : s.heap.get? a = some o) (hc : o.cls = .ref C) (hd : o.data = .fields vs) (h1 : vs[1]? = some .none)
    {x : Sem Value} {s₀ : Shared} (hE : E (.ref a) s) (h : ∀ {R : Value → Shared → Prop}, R (.ref a) s → wpAny M A x R E s₀) : wpAny M A (raiseStmt env (some x) none) Q E s₀ := by
  obtain ⟨nm, qn, N, bs, bm, sn, sub, ab, col, dd, k0, k1, k2, k3, k5, cC, T⟩ := yec X cx
  have hob : (Value.ref C :: bm).contains (.type "BaseException") = true := by rw [List.contains_cons, T.hasType PySem.F.excBase_ValueError.hasBase]; rfl
  unfold raiseStmt
  refine wpAny_bind (h ?_)
  obtain ⟨hp, g, d, tk, os⟩ := s
  have cC : hp.get? C = _ := cC
  have hx : hp.get? a = some o := hx
  have hnt : (match o.data with | .cls _ => true | _ => false) = false := by rw [hd]
  unfold excFromValue isExcClass isInstance
  repeat (first | (with_reducible refine wpAny_loadPart_at hx ?_; first | rw [hc] | (dsimp only; rw [hd])) | (with_reducible refine wpAny_loadPart_at cC ?_) | (with_reducible refine wpAny_isSubtype_exc cC ?_; rw [hob]) | wp_step)
  rw [hd]
  refine wpAny_pure ?_
  rw [h1]
  refine wpAny_pure ?_
  rw [if_neg (by decide)]
  exact wpAny_pure (wpAny_raiseNew_none hh hE)
theorem ych {x : Expr} {te : TE} {pos : Pos} (he : PE (cxX P w K mg base N qual scope f cd A outer s0 H0 E) x te) : PS (cxX P w K mg base N qual scope f cd A outer s0 H0 E) (.Raise (some x) none pos) (tRaise K E te) := by
  intro pins s σ H D I h
  rw [arm_exec_Raise]
  refine wpAny_bind (wpAny_standAt ?_)
  have hx := he pins s σ H _ I h
  show wpAny _ _ (raiseStmt _ (some (do let v ← eval x _; standAt pos; pure v)) none) _ _ _
  unfold raiseStmt
  refine wpAny_bind (wpAny_bind (thn hx fun v s1 ⟨y, H1, I1, r, a, C, dx, ey, ty, ha, q⟩ => ?_))
  subst ey
  obtain rfl : v = Value.ref a := r
  refine wpAny_bind (wpAny_standAt (wpAny_pure ?_))
  obtain ⟨⟨o, vs, e1, e2, e3, e4, e5⟩, _⟩ := I1.hok a _ ha
  have lv := leaves (I1.xq ha) yaa (.inl (raw_of I1.hok ha)) q
  have := qkg (A := (cxX P w K mg base N qual scope f cd A outer s0 H0 E).A) (env := (cxX P w K mg base N qual scope f cd A outer s0 H0 E).env) (M := model P w) (Q := SP (cxX P w K mg base N qual scope f cd A outer s0 H0 E) pins D) (x := pure (.ref a)) (s₀ := s1) I1.kIn ty.cx (I1.ok.hd rfl) e1 e2 e4 e5 lv (fun {R} hR => wpAny_pure hR)
  unfold raiseStmt at this
  exact this
end
def HasX (P : Program) (w : World) (K : PySem.W.Frag) (mg : Str → Option Value) (base : Heap) (k : Nat) (x : Str) (ps : List Str) (sp : Sp) : Prop :=
  ∃ f fd, mg x = some (.ref f) ∧ PySem.W.keepIn K (.ref f) = true ∧ qck K fd ps [] ∧ FnOk P w K mg base (CX1 P w) k f fd ps sp
section
variable {P : Program} {w : World} {K : PySem.W.Frag} {mg : Str → Option Value} {base : Heap}
theorem FnOk.x {k : Nat} {f : Addr} {fd : FuncData} {ps : List Str} {sp : Sp} (F : FnOk P w K mg base CX0 k f fd ps sp) : FnOk P w K mg base (CX1 P w) k f fd ps sp :=
  ⟨F.len, fun A outer s H args us vs Q E hr he hb hv hs => codeAny_mono (F.run A outer s H args us vs Q E hr he hb hv hs) fun r s' h => by
    cases r with
    | error e => exact h.elim
    | ok fl => cases fl <;> exact h⟩
theorem FnOk.ofX {x qual : Str} {st : Stmt} {f : Addr} {fd : FuncData} {N ps : List Str} {k : Nat} {sp : Sp} (F : Fun K x qual st f fd) (S : FnScope N ps (yab st)) (len : ∀ vs H Q E, sp vs H Q E → vs.length = ps.length)
    (hbody : ∀ (cdv : Value) (A : Around) (outer : List Env) (s : Shared) (H : Hp) (vs : List V) (Q : VK) (E : XK), Room k (A.deeper (envOfC qual (yab st) s.heap.objs.size f cdv)) → sp vs H Q E →
      ∃ t, Mx.QSs (cxX P w K mg base N qual (yab st) f cdv A outer s H E) (yag st) t ∧ t { nx := fun _ H' => Q .non H', rt := Q } (ydo N vs) H) : FnOk P w K mg base (CX1 P w) (k + 1) f fd ps sp := by
  obtain ⟨oc, od, kV, doc, pm, an, cdv, ct, osl, rfl, lk, hcd⟩ := F.ex
  refine fn_of lk hcd S len fun A outer s H vs Q E hr hsp => ?_
  obtain ⟨t, h, q⟩ := hbody cdv A outer s H vs Q E hr hsp
  exact ⟨t, h.of, q⟩
theorem HasX.of {x : Str} {st : Stmt} {ps N : List Str} {k : Nat} {sp : Sp} (F : FnAt K mg x st ps) (S : FnScope N ps (yab st)) (len : ∀ vs H Q E, sp vs H Q E → vs.length = ps.length)
    (hbody : ∀ (f : Addr) (cdv : Value) (A : Around) (outer : List Env) (s : Shared) (H : Hp) (vs : List V) (Q : VK) (E : XK), Room k (A.deeper (envOfC x (yab st) s.heap.objs.size f cdv)) → sp vs H Q E →
      ∃ t, Mx.QSs (cxX P w K mg base N x (yab st) f cdv A outer s H E) (yag st) t ∧ t { nx := fun _ H' => Q .non H', rt := Q } (ydo N vs) H) : HasX P w K mg base (k + 1) x ps sp := by
  obtain ⟨f, fd, h1, h2, h3⟩ := F
  exact ⟨f, fd, h1, h2.kp, h3, FnOk.ofX h2 S len fun cdv A outer s H vs Q E hr h => hbody f cdv A outer s H vs Q E hr h⟩
end
section
variable {X : Cx} {e o : Expr} {es : List Expr} {ta : TE} {t : TA} {p pos apos : Pos} {x m : Str} {C : Addr} {E : XK}
theorem qeu {k n : Nat} {ps : List Str} {sp : Sp} (h : HasX X.prog X.w X.K X.mg X.base k x ps sp) (hx : qdj (CX1 X.prog X.w) X E) (hr : Room n X.A) (ha : PA X (e :: es) t) (hk : k ≤ n := by decide) (hg : Gl X x := by rfl)
    (hdb : (x == ("__debug__" : Str)) = false := by decide) (he : starEach (e :: es) X.env = (false, eval e X.env) :: starEach es X.env := by rfl) (hpl : (backTo pos (starEach es X.env)).any (·.1) = false := by rfl) :
    PE X (.Call (.Name x p) (e :: es) [] pos) (tCall sp [] E t) := by
  obtain ⟨f, fd, h1, h2, h3, h4⟩ := h
  exact yjc h4 (hr.mono hk) hg h1 h2 h3 .nil hx ha hdb he hpl
end
abbrev Cx.sui (X : Cx) (e : Value) : Cx := { X with A := X.A.mark (some e), calm := false }
section
variable {X : Cx} {pins : List (Addr × Obj)} {σ : St} {H : Hp} {s : Shared} {v : Value}
theorem Cx.Ok.sui (ok : X.Ok) (v : Value) : (X.sui v).Ok :=
  ⟨ok.mod, ok.kind, ok.glob, ok.blt, ok.above, ok.inj, ok.has, ok.cab, (fun h => nomatch h), ok.frames, ok.stk, ok.exf, ok.bs, ok.bsz, ok.noex, ok.exfs, ok.funs, ok.frf⟩
theorem Inv.sui (I : Inv X pins σ H s) (v : Value) : Inv (X.sui v) pins σ H s := ⟨I.ok.sui v, I.os, I.bare, I.base, I.loc, I.cell, I.free, I.freeC, I.pin, I.hok, I.len⟩
theorem Inv.unsui (ok : X.Ok) (I : Inv (X.sui v) pins σ H s) : Inv X pins σ H s := ⟨ok, I.os, I.bare, I.base, I.loc, I.cell, I.free, I.freeC, I.pin, I.hok, I.len⟩
theorem goes_ok {M : Model} {A : Around} {E : Value → Shared → Prop} {i : Nat} {x : Str} {pos : Pos} {Q : Unit → Shared → Prop} (I : Inv X pins σ H s) (hN : X.N.Nodup) (hi : X.N[i]? = some x) (hk : X.env.scope.names.lookup x = some .local)
    (h : ∀ s', Inv X pins (σ.set i none) H s' → Q () s') : wpAny M A (do bindName X.env x .none; unbindBehindTheSuite X.env x pos) Q E s := by
  obtain ⟨m, hn, hl⟩ := id I.loc
  have hcls : (X.env.scope.kind == .class || (X.env.scope.kind == .module && X.env.locals != X.env.globals)) = false := by rw [I.ok.kind]; rfl
  have cne := I.cne
  refine wpAny_nameGoes_keeps hk hn hcls fun h' v hn' hs => ?_
  obtain ⟨oL, _, _, hoL, _⟩ := id hn
  have tracked : HOk X.prog X.w H h' := fun b ob e => by
    refine (I.hok b ob e).stay (fun c w' hc q => (hs.2 c ?_).trans q) (fun _ q => q) fun _ _ q => q
    rintro rfl
    rcases hc with rfl | hc
    · rw [I.free] at e; cases e
    · rw [I.free] at hc; cases hc
  refine h _ ⟨I.ok, I.os, I.bare, ⟨fun b o e n hb hx => ?_, fun b o e n hb hx => ?_, I.base.free, fun b o e hx => ?_, I.base.tups, I.base.frzs, I.base.tbls⟩, ⟨_, hn', fun j y v' e1 e2 e3 => ?_⟩, fun y c e => ?_, I.free, I.freeC, fun p hp => ?_, tracked, by simpa using I.len⟩
  · exact (hs.2 b (Nat.ne_of_lt (Nat.lt_of_lt_of_le (Heap.lt_size e) I.ok.above))).trans (I.base.keep b o e n hb hx)
  · obtain ⟨sl, e1⟩ := I.base.slot b o e n hb hx
    exact ⟨sl, (hs.2 b (Nat.ne_of_lt (Nat.lt_of_lt_of_le (Heap.lt_size e) I.ok.above))).trans e1⟩
  · obtain ⟨o', e1⟩ := I.base.there b o e hx
    exact ⟨o', (hs.2 b (Nat.ne_of_lt (Nat.lt_of_lt_of_le (Heap.lt_size e) I.ok.above))).trans e1⟩
  · by_cases hj : i = j
    · subst hj
      rw [List.getElem?_set_self (by have := (List.getElem?_eq_some_iff.mp hi).1; rw [I.len]; exact this)] at e2
      cases e2
    · rw [List.getElem?_set_ne hj] at e2
      obtain ⟨u', r', q⟩ := hl j y v' e1 e2 e3
      refine ⟨u', r', ?_⟩
      rcases q with ⟨k, e⟩ | ⟨k, c, e, z⟩
      · refine .inl ⟨k, ?_⟩
        have : y ≠ x := fun e => hj (qgd hN hi (e ▸ e1))
        simp [this, e]
      · exact .inr ⟨k, c, e, z.sameBut hs (cne y c e)⟩
  · obtain ⟨w', z⟩ := I.cell y c e
    exact ⟨w', z.sameBut hs (cne y c e)⟩
  · obtain ⟨e, n, ne, nf, d⟩ := I.pin p hp
    exact ⟨(hs.2 p.1 ne).trans e, n, ne, nf, d⟩
theorem yhr {M : Model} {A : Around} {E : Value → Shared → Prop} {a T : Addr} {Q : Unit → Shared → Prop} (I : Inv X pins σ H s) (fl : Fly s.heap H a T) (h : ∀ s', Inv X pins σ H s' → Fly s'.heap H a T → Q () s') : wpAny M A (setFlight (.ref a) none) Q E s := by
  obtain ⟨⟨o, vs, he, hd, h1⟩, hTa, hTn, oT, ts, hT, hdT, h3⟩ := fl
  refine wpAny_setFlight_none he hd h1 hT hdT (Array.getElem?_eq_some_iff.mp h3).1 ?_
  have same : ∀ b u, s.heap.get? b = some u → (s.heap.update T (Obj.mapFields (·.setIfInBounds 3 Value.none))).get? b = some u := fun b u e => by
    by_cases hb : b = T
    · subst hb
      have := Heap.get?_update_self (Obj.mapFields (·.setIfInBounds 3 Value.none)) hT (Obj.isFreed_of_fields (Obj.data_mapFields hdT _))
      rw [yi7 hdT h3] at this
      rw [hT] at e; cases e
      exact this
    · exact (Heap.get?_update_other _ _ (Ne.symm hb)).trans e
  exact h _ (I.kept (t' := s.toks) same) ⟨⟨o, vs, same _ _ he, hd, h1⟩, hTa, hTn, oT, ts, same _ _ hT, hdT, h3⟩
def XP (X : Cx) (pins : List (Addr × Obj)) (R : St → V → Hp → Prop) (e : Value) (s' : Shared) : Prop := ∃ a T C dx σ' H', e = .ref a ∧ Inv X pins σ' H' s' ∧ H' a = some (.ext (qce a C dx)) ∧ Fly s'.heap H' a T ∧ R σ' (.ref a) H'
def PSx (X : Cx) (sts : List Stmt) (t : (St → V → Hp → Prop) → TS) : Prop :=
  ∀ (pins : List (Addr × Obj)) (s : Shared) (σ : St) (H : Hp) (D : Ends) (R : St → V → Hp → Prop), Inv X pins σ H s → t R D σ H → wpAny (model X.prog X.w) X.A (execs sts X.env) (SP X pins D) (XP X pins R) s
def PEx (X : Cx) (e : Expr) (t : (V → Hp → Prop) → TE) : Prop :=
  ∀ (pins : List (Addr × Obj)) (s : Shared) (σ : St) (H : Hp) (Q : VK) (R : V → Hp → Prop), Inv X pins σ H s → t R σ H Q → wpAny (model X.prog X.w) X.A (eval e X.env) (EP X pins σ Q) (XP X pins fun σ' v H' => σ' = σ ∧ R v H') s
def rxE (R : V → Hp → Prop) : XK := fun e _ H' => ∃ a, e = .ref a ∧ R (.ref a) H'
variable {e : Expr} {es : List Expr} {p pos apos : Pos} {x m : Str} {C : Addr} {t : TA} {te ta : TE}
theorem run_fnx {k : Nat} {f : Addr} {fd : FuncData} {ps : List Str} {sp : Sp} {Q : VK} {R : V → Hp → Prop} {us : List Value} {vs : List V} (F : FnOk X.prog X.w X.K X.mg X.base (CX1 X.prog X.w) k f fd ps sp) (hr : Room k X.A) (hb : qck X.K fd ps [])
    (I : Inv X pins σ H s) (r : Vals vs us) (h : sp vs H Q (rxE R)) : wpAny (model X.prog X.w) X.A (call (.ref f) us) (EP X pins σ Q) (XP X pins fun σ' v H' => σ' = σ ∧ R v H') s := by
  have hl : us.length = ps.length := by rw [← r.length]; exact F.len _ _ _ _ h
  have bb := hb s us I.kIn (by rw [List.append_nil]; exact hl)
  rw [List.append_nil] at bb
  refine wpAny_call (codeAny_mono (F.run X.A X.stack s H ⟨us, []⟩ us vs Q (rxE R) hr I.env0 bb r h) fun r s' hq => ?_)
  cases r with
  | error e =>
    obtain ⟨a, T, C, dx, H', rfl, ho, hba, un, hok, ha, fl, a', ea, hR⟩ := hq
    cases ea
    exact ⟨a, T, C, dx, σ, H', rfl, I.call' (ch := []) ho un hok hba fun b z => absurd z (by simp), ha, fl, rfl, hR⟩
  | ok fl =>
    cases fl with
    | ret u => exact I.after hq
    | next => exact False.elim hq
    | brk => exact False.elim hq
    | cont => exact False.elim hq
def sSetx (i : Nat) (te : (V → Hp → Prop) → TE) (R : St → V → Hp → Prop) : TS := fun D σ H => te (R σ) σ H fun v H1 => D.nx (σ.set i (some v)) H1
theorem psx_set {i : Nat} {pos' : Pos} {te : (V → Hp → Prop) → TE} (hN : X.N.Nodup) (hi : X.N[i]? = some x) (hx : Loc X.env.scope x) (he : PEx X e te) (hs : swapsWith e (some (.Name x pos')) pos.line X.env = pure false := by rfl)
    (hf : X.fn x = true ∨ X.env.scope.names.lookup x = some .local := by first | exact .inl rfl | exact .inr rfl | assumption) : PSx X [.Assign [.Name x pos'] e pos] (sSetx i te) := by
  intro pins s σ H D R I h
  refine wpAny_execs_cons ?_
  refine wpAny_Assign_Name (wpAny_mono (he pins s σ H _ (R σ) I h) (fun u s1 ⟨y, H1, I1, ry, q⟩ => ?_) fun e s' ⟨a, T, C, dx, σ', H', r1, r2, r3, r4, e1, r5⟩ => ⟨a, T, C, dx, σ', H', r1, r2, r3, r4, by rw [e1]; exact r5⟩) hs
  exact qet I1 hN hi hx ry (fun s2 I2 => wpAny_execs_nil ⟨_, _, I2, q⟩) hf
def sDropx (te : (V → Hp → Prop) → TE) (R : St → V → Hp → Prop) : TS := fun D σ H => te (R σ) σ H fun _ H1 => D.nx σ H1
theorem psx_expr {te : (V → Hp → Prop) → TE} (he : PEx X e te) (hs : swapsWith e none pos.line X.env = pure false := by rfl) : PSx X [.Expr e pos] (sDropx te) := by
  intro pins s σ H D R I h
  refine wpAny_execs_cons ?_
  exact wpAny_Expr_any (wpAny_mono (he pins s σ H _ (R σ) I h) (fun u s1 ⟨y, H1, I1, ry, q⟩ => wpAny_execs_nil ⟨_, _, I1, q⟩) fun e s' ⟨a, T, C, dx, σ', H', r1, r2, r3, r4, e1, r5⟩ => ⟨a, T, C, dx, σ', H', r1, r2, r3, r4, by rw [e1]; exact r5⟩) I.quiet hs
def tIfx (tc : TT) (t u : (V → Hp → Prop) → TE) (R : V → Hp → Prop) : TE := fun σ H Q => tc σ H fun b H1 => if b = true then t R σ H1 Q else u R σ H1 Q
theorem pex_if {c a b : Expr} {tc : TT} {t u : (V → Hp → Prop) → TE} (hx : ∀ e s, ¬ X.xe e s) (hc : PT X c tc) (ha : PEx X a t) (hb : PEx X b u) : PEx X (.IfExp c a b pos) (tIfx tc t u) := by
  intro pins s σ H Q R I h
  refine wpAny_IfExp (wpAny_mono (hc pins s σ H _ I h) (fun d s1 ⟨H1, I1, q1⟩ => ?_) fun e s z => (hx e s z).elim)
  cases d with
  | true => exact ha pins s1 σ H1 Q R I1 q1
  | false => exact hb pins s1 σ H1 Q R I1 q1
def sTry (K : PySem.W.Frag) (M : Addr) (iy jn : Nat) (tb : (St → V → Hp → Prop) → TS) : TS := fun D σ H => tb (fun σ' v H' => ∃ a C fs, v = .ref a ∧ XAt H' a C fs ∧ PySem.W.exmOne K (.ref C) (.ref M) = some true ∧ D.nx (((σ'.set jn (some v)).set iy (some v)).set jn none) H') D σ H
theorem ps_try {body : List Stmt} {cx n y : Str} {M : Addr} {iy jn : Nat} {tb : (St → V → Hp → Prop) → TS} {p1 p2 p3 p4 p5 : Pos} (hx : ∀ e s, ¬ X.xe e s) (hst : X.stack = X.env :: X.outer) (hfr : X.env.frame = some X.env.locals) (hb : PSx X body tb)
    (hN : X.N.Nodup) (hj : X.N[jn]? = some n) (hn : X.env.scope.names.lookup n = some .local) (hi : X.N[iy]? = some y) (hy : Loc X.env.scope y) (hne : jn ≠ iy) (hg : Gl X cx) (hm : X.mg cx = some (.ref M)) (hdb : (cx == ("__debug__" : Str)) = false := by decide) (hdn : (n == ("__debug__" : Str)) = false := by decide) (hcn : (n == ("__classdict__" : Str)) = false := by decide)
    (hf : X.fn y = true ∨ X.env.scope.names.lookup y = some .local := by first | exact .inl rfl | exact .inr rfl | assumption)
    (hs : swapsWith (.Name n p3) (some (.Name y p2)) p4.line X.env = pure false := by rfl) :
    PS X (.Try body [.ExceptHandler (some (.Name cx p1)) (some n) [.Assign [.Name y p2] (.Name n p3) p4] p5] [] [] pos) (sTry X.K M iy jn tb) := by
  intro pins s σ H D I h
  refine wpAny_Try_except (wpAny_mono (hb pins s σ H D _ I h) (fun f s' z => by cases f <;> first | exact z | exact wpAny_execs_nil z) ?_)
  rintro e s1 ⟨a, T, C, dx, σ', H', rfl, I1, ha, fl, a', C', fs, ea, xa, em, q⟩
  cases ea
  refine qic I1 hst hfr ha (.inr ⟨T, fl⟩) fun h' T' I2 fl2 _ => ?_
  have I2m := I2.sui (.ref a)
  refine wpAny_handleBy_cons (codeAny_handlers_test ?_) (by intro q; cases q)
  refine ydm (X := X.sui (.ref a)) I2m hg hm ?_ hdb
  obtain ⟨ox, od, ia⟩ := xa.at I2
  refine (exm_one (M := model X.prog X.w) I2.kIn ia.type em).here ?_
  refine codeAny_handlers_suite_as ?_
  refine yhr I2 fl2 fun s3 I3 fl3 => ?_
  refine qet (i := jn) (x := n) (v := .ref a) I3 hN hj (.inl hn) rfl (fun s4 I4 => ?_) (.inr hn)
  have hp := yae (qbq (X := (X.sui (.ref a)).nox) (pos := p4) (i := iy) (x := y) (pos' := p2) hN hi hy (pe_var (i := jn) (pos := p3) hj (.inl hn) hdn hcn) hs hf)
  refine wpAny_mono (hp pins s4 _ H' { nx := fun σ2 H2 => σ2 = ((σ'.set jn (some (.ref a))).set iy (some (.ref a))) ∧ H2 = H', rt := fun _ _ => False } ((I4.sui (.ref a)).wish _) ⟨_, ?_, rfl, rfl⟩) (fun f s5 z => ?_) fun _ _ z => z.elim
  · rw [List.getElem?_set_self]
    have := (List.getElem?_eq_some_iff.mp hj).1
    rw [I3.len]; exact this
  · cases f with
    | next =>
      obtain ⟨σ5, H5, I5, rfl, rfl⟩ := z
      have I6 : Inv X pins _ H5 s5 := Inv.unsui I2.ok I5.unwish
      exact goes_ok I6 hN hj hn fun s7 I7 => ⟨_, _, I7, q⟩
    | brk => obtain ⟨_, _, _, z⟩ := z; exact z.elim
    | cont => obtain ⟨_, _, _, z⟩ := z; exact z.elim
    | ret u => obtain ⟨_, _, _, _, _, z⟩ := z; exact z.elim
end
def XInit (P : Program) (w : World) (K : PySem.W.Frag) (mg : Str → Option Value) (base : Heap) (x : Str) (C : Addr) (ps : List Str) (sp : Sp) : Prop :=
  mg x = some (.ref C) ∧ PySem.W.keepIn K (.ref C) = true ∧ XOk K C ∧ ∃ f fd, PySem.W.findIn K (.ref C) "__init__" = some (some (.ref f)) ∧ PySem.W.isFn K (.ref f) = true ∧ qck K fd ps [] ∧ FnOk P w K mg base CX0 1 f fd ps sp
def yhk (K : PySem.W.Frag) (mg : Str → Option Value) (x : Str) (C : Addr) : Prop :=
  mg x = some (.ref C) ∧ PySem.W.keepIn K (.ref C) = true ∧ XTy K C ∧ PySem.W.excIn K C bmV "ValueError.__new__" = true
def sp_x1 (C : Addr) (f : Str) : Sp := fun vs H Q _ => ∃ a v, vs = [.ref a, v] ∧ XD H a C none [] ∧ ∀ d H', XD H' a C (some d) [(f, v)] → SetX a d none H H' → Q .non H'
theorem SetX.sm {a d : Addr} {H H1 H' : Hp} {o : HO} (hn : H a = none) (e : H1 = upd H a o) (x : SetX a d none H1 H') : Same H H' := by
  subst e
  intro b o hb
  refine x.kp b o (by rw [qag (yah hb hn)]; exact hb) (yah hb hn) ?_
  rcases x.dd with z | ⟨_, z⟩
  · cases z
  · intro q
    subst q
    rw [qag (yah hb hn), hb] at z
    cases z
section
variable {X : Cx} {e o : Expr} {es : List Expr} {t : TA} {ta : TE} {p pos apos : Pos} {x m : Str} {C : Addr}
theorem pe_xI {n : Nat} {ps : List Str} {sp : Sp} (h : XInit X.prog X.w X.K X.mg X.base x C ps sp) (hr : Room n X.A) (ha : PA X (e :: es) t) (hk : 2 ≤ n := by decide) (hg : Gl X x := by rfl) (hdb : (x == ("__debug__" : Str)) = false := by decide)
    (he : starEach (e :: es) X.env = (false, eval e X.env) :: starEach es X.env := by rfl) (hpl : (backTo pos (starEach es X.env)).any (·.1) = false := by rfl) : PE X (.Call (.Name x p) (e :: es) [] pos) (tXMake C sp t) := by
  obtain ⟨h1, h2, h3, f, fd, h4, h5, h6, h7⟩ := h
  exact pe_xmake h3 h4 h5 h7 (hr.mono hk) h6 h2 hg h1 ha hdb he hpl
theorem yj9 (h : yhk X.K X.mg x C) (ha : PA X (e :: es) t) (hg : Gl X x := by rfl) (hdb : (x == ("__debug__" : Str)) = false := by decide)
    (he : starEach (e :: es) X.env = (false, eval e X.env) :: starEach es X.env := by rfl) (hpl : (backTo pos (starEach es X.env)).any (·.1) = false := by rfl) : PE X (.Call (.Name x p) (e :: es) [] pos) (qi0 C t) := by
  obtain ⟨h1, h2, h3, h4⟩ := h
  exact yji h4 h2 hg h1 ha hdb he hpl
end
def yc8 (P : Program) (w : World) (K : PySem.W.Frag) (mg : Str → Option Value) (base : Heap) (C : Addr) (k : Nat) (m : Str) (ps : List Str) (sp : Sp) : Prop :=
  ∃ f fd, Meth K C m f ∧ qck K fd ps [] ∧ FnOk P w K mg base (CX1 P w) k f fd ps sp
def qj7 (P : Program) (w : World) (K : PySem.W.Frag) (mg : Str → Option Value) (base : Heap) (C : Addr) (k : Nat) (x : Str) (ps : List Str) (sp : Sp) : Prop :=
  ∃ f fd, mg x = some (.ref C) ∧ Mk K C f ∧ qck K fd ps [] ∧ FnOk P w K mg base (CX1 P w) k f fd ps sp
section
variable {P : Program} {w : World} {K : PySem.W.Frag} {mg : Str → Option Value} {base : Heap} {C : Addr}
theorem yc8.of {m qual : Str} {st : Stmt} {ps N : List Str} {k : Nat} {sp : Sp} (F : Mx.ycf K C m qual st ps) (S : FnScope N ps (yab st)) (len : ∀ vs H Q E, sp vs H Q E → vs.length = ps.length)
    (hbody : ∀ (f : Addr) (cdv : Value) (A : Around) (outer : List Env) (s : Shared) (H : Hp) (vs : List V) (Q : VK) (E : XK), Room k (A.deeper (envOfC qual (yab st) s.heap.objs.size f cdv)) → sp vs H Q E →
      ∃ t, Mx.QSs (cxX P w K mg base N qual (yab st) f cdv A outer s H E) (yag st) t ∧ t { nx := fun _ H' => Q .non H', rt := Q } (ydo N vs) H) : yc8 P w K mg base C (k + 1) m ps sp := by
  obtain ⟨f, fd, h1, h2, h3⟩ := F
  exact ⟨f, fd, h1, h3, FnOk.ofX h2 S len fun cdv A outer s H vs Q E hr h => hbody f cdv A outer s H vs Q E hr h⟩
theorem qj7.of {x m : Str} {ps : List Str} {k : Nat} {sp : Sp} {f : Addr} (hm : mg x = some (.ref C)) (M : Mk K C f) (u : ∀ g, Meth K C "__init__" g → g = f) (h : yc8 P w K mg base C k "__init__" ps sp) : qj7 P w K mg base C k x ps sp := by
  obtain ⟨g, fd, h1, h2, h3⟩ := h
  have := u g h1
  subst this
  exact ⟨g, fd, hm, M, h2, h3⟩
end
section
variable {X : Cx} {pins : List (Addr × Obj)} {σ : St} {H : Hp} {s : Shared} {e o : Expr} {es : List Expr} {t : TA} {ta : TE} {p pos apos : Pos} {x m : Str} {C : Addr}
theorem qjy {k : Nat} {f : Addr} {fd : FuncData} {ps : List Str} {sp : Sp} {Q : VK} {R : V → Hp → Prop} {us : List Value} {vs : List V} (M : Mk X.K C f) (F : FnOk X.prog X.w X.K X.mg X.base (CX1 X.prog X.w) k f fd ps sp) (hr : Room (k + 1) X.A) (hb : qck X.K fd ps [])
    (I : Inv X pins σ H s) (r : Vals vs us) (h : ∀ x dx, H x = none → H dx = none → dx ≠ x → sp (.ref x :: vs) (upd (upd H dx (.own x)) x (.ins C dx [])) (fun v H2 => v = .non ∧ Q (.ref x) H2) (rxE R)) :
    wpAny (model X.prog X.w) X.A (call (.ref C) us) (EP X pins σ Q) (XP X pins fun σ' v H' => σ' = σ ∧ R v H') s := by
  have hq := h (s.heap.objs.size + 1) s.heap.objs.size (I.hok.fresh (Nat.le_succ _)) (I.hok.fresh (Nat.le_refl _)) (Nat.ne_of_lt (Nat.lt_succ_self _))
  have I2 := Inv.made (C := C) I
  have r2 : Vals (V.ref (s.heap.objs.size + 1) :: vs) (Value.ref (s.heap.objs.size + 1) :: us) := .cons rfl r
  have hl : (Value.ref (s.heap.objs.size + 1) :: us).length = ps.length := by
    have e := r2.length
    rw [F.len _ _ _ _ hq] at e
    exact e.symm
  have bb := hb _ (Value.ref (s.heap.objs.size + 1) :: us) I2.kIn (by rw [List.append_nil]; exact hl)
  rw [List.append_nil] at bb
  refine wpAny_call (qii (f := f) I.kIn M.makes M.init (beq_iff_eq.mp M.fn) (codeAny_mono (F.run _ X.stack _ _ ⟨Value.ref (s.heap.objs.size + 1) :: us, []⟩ (Value.ref (s.heap.objs.size + 1) :: us) _ _ (rxE R) (hr.make C us [])
    (I2.env0.make C us []) bb r2 hq) fun r s' hq' => ?_))
  cases r with
  | error e =>
    obtain ⟨a, T, C, dx, H', rfl, ho, hba, un, hok, ha, fl, a', ea, hR⟩ := hq'
    cases ea
    exact ⟨a, T, C, dx, σ, H', rfl, I2.call' (ch := []) ho un hok hba fun b z => absurd z (by simp), ha, fl, rfl, hR⟩
  | ok fl =>
    cases fl with
    | ret u =>
      obtain ⟨v, H', I3, rv, ev, q3⟩ := I2.after hq'
      subst ev
      exact ⟨rv, ⟨V.ref (s.heap.objs.size + 1), H', I3, rfl, q3⟩⟩
    | next => exact False.elim hq'
    | brk => exact False.elim hq'
    | cont => exact False.elim hq'
def tMakex (C : Addr) (sp : Sp) (t : TA) (R : V → Hp → Prop) : TE := fun σ H Q => t σ H fun vs H1 => ∀ x dx, H1 x = none → H1 dx = none → dx ≠ x → sp (.ref x :: vs) (upd (upd H1 dx (.own x)) x (.ins C dx [])) (fun v H2 => v = .non ∧ Q (.ref x) H2) (rxE R)
theorem pex_make {k n : Nat} {ps : List Str} {sp : Sp} (hx : ∀ e s, ¬ X.xe e s) (h : qj7 X.prog X.w X.K X.mg X.base C k x ps sp) (hr : Room n X.A) (ha : PA X (e :: es) t) (hk : k + 1 ≤ n := by decide) (hg : Gl X x := by rfl)
    (hdb : (x == ("__debug__" : Str)) = false := by decide) (he : starEach (e :: es) X.env = (false, eval e X.env) :: starEach es X.env := by rfl) (hpl : (backTo pos (starEach es X.env)).any (·.1) = false := by rfl) :
    PEx X (.Call (.Name x p) (e :: es) [] pos) (tMakex C sp t) := by
  intro pins s σ H Q R I h'
  obtain ⟨f, fd, h1, h2, h3, h4⟩ := h
  refine wpAny_Call_Name_kw (ydm I hg h1 ?_ hdb)
  refine PySem.W.callWith_K (h₀ := X.base) I.ok.mod.kin h2.kp (wpAny_mono (ha pos pins s σ H _ I h') (fun us s1 ⟨vs, H1, I1, r, q⟩ => ⟨I1.kIn, ?_⟩) fun e s z => (hx e s z).elim) he hpl
  exact qjy h2 h4 (hr.mono hk) h3 I1 r q
def tMethx (C : Addr) (m : Str) (sp : Sp) (ta : TE) (t : TA) (R : V → Hp → Prop) : TE := fun σ H Q => ta σ H fun x H1 => ∃ a dx fs, x = .ref a ∧ H1 a = some (.ins C dx fs) ∧ fs.lookup m = none ∧ t σ H1 fun vs H2 => sp (x :: vs) H2 Q (rxE R)
theorem yh5 {k n : Nat} {ps : List Str} {sp : Sp} {pl : Sem Bool} (hx : ∀ e s, ¬ X.xe e s) (c : Cls X.K C) (h : yc8 X.prog X.w X.K X.mg X.base C k m ps sp) (hr : Room n X.A) (he : PE X o ta) (ha : PA X (e :: es) t) (hk : k ≤ n := by decide)
    (hst : starEach (e :: es) X.env = (false, eval e X.env) :: starEach es X.env := by rfl) (hpl : (backTo pos (starEach es X.env)).any (·.1) = false := by rfl)
    (ht : eval (.Call (.Attribute o m apos) (e :: es) [] pos) X.env = (do
      let ov ← eval o X.env
      standAt apos.atName
      let (f, first) ← holding [ov] (getMethod ov m pl)
      callWith pos f first (backTo pos (starEach (e :: es) X.env)) (backToKw pos (keywordEach [] X.env))) := by rfl) :
    PEx X (.Call (.Attribute o m apos) (e :: es) [] pos) (tMethx C m sp ta t) := by
  intro pins s σ H Q R I h'
  obtain ⟨f, fd, h1, h3, h4⟩ := h
  refine PySem.W.methodCall_KW (pl := pl) (wpAny_mono (he pins s σ H _ I h') (fun u s1 ⟨x, H1, I1, rx, a, dx, fs, ex, ea, l, q⟩ => ?_) fun e s z => (hx e s z).elim) ht
  subst ex
  obtain rfl : u = Value.ref a := rx
  refine ydb I1 ea c h1 l ?_
  refine PySem.W.callWith_K (first := [.ref a]) (h₀ := X.base) I.ok.mod.kin h1.kp (wpAny_mono (ha pos pins s1 σ H1 _ I1 q) (fun us s2 ⟨vs, H2, I2, r, q2⟩ => ⟨I2.kIn, ?_⟩) fun e s z => (hx e s z).elim) hst hpl
  exact run_fnx (us := .ref a :: us) (vs := .ref a :: vs) h4 (hr.mono hk) h3 I2 (.cons rfl r) q2
end
section
variable {X : Cx}
end
theorem raised_x {H H' : Hp} {a d C : Addr} {fs : List (Str × V)} (hn : H a = none) (x : XD H' a C (some d) fs) (sx : SetX a d none (upd H a (.ext (yb5 a C none))) H') :
    H' a = some (.ext (yb5 a C (some d))) ∧ Same H (upd H' a (.ext (qce a C (some d)))) ∧ XAt (upd H' a (.ext (qce a C (some d)))) a C fs := by
  rcases x with ⟨e, _⟩ | ⟨d', e, h1, h2⟩
  · cases e
  cases e
  have nd : d ≠ a := by
    rcases sx.dd with z | ⟨_, z⟩
    · cases z
    · intro q
      subst q
      rw [yaa] at z
      cases z
  refine ⟨h1, (SetX.sm hn rfl sx).at hn, .inr (.inr (.inr ⟨d, yaa, ?_⟩))⟩
  rw [qag nd]
  exact h2
theorem cut_init {xs : List V} : cutV xs none (some (-1)) = xs.dropLast := by
  unfold cutV
  rw [HT.sIx_none, List.drop_zero, Nat.sub_zero, List.dropLast_eq_take]
  congr 1
  unfold HT.sIx
  simp
  omega
section
variable {X : Cx}
end
end L2
namespace Mx
open PySem L2 PyProof.Rows
section
variable {X : Cx} {o e : Expr} {es : List Expr} {te to : TE} {t : TA} {pos p2 : Pos}
theorem qe_sl {lo hi : Option Expr} {tl th : TO} {r : V → Option Int → Option Int → Hp → VK → Prop} (hr : SlR X r) (he : QE X e te) (hl : PO X lo tl) (hu : PO X hi th) : QE X (.Subscript e (.Slice lo hi none p2) pos) (tSl r te tl th) := ⟨qbs hr he.of hl hu⟩
end
end Mx
namespace L2
open PySem PySem.Spec PyProof.Rows PySem.W
def AtX (H : Hp) (v : V) (d : PyData) : Prop := At H v d ∨ (d = .dict [] ∧ ∃ a, v = .ref a ∧ H a = some (.dK []))
theorem AtX.same {H H' : Hp} {v : V} {d : PyData} (h : AtX H v d) (s : Same H H') : AtX H' v d := by
  rcases h with h | ⟨e, a, ea, h⟩
  · exact .inl (h.same s)
  · exact .inr ⟨e, a, ea, s _ _ h⟩
def tyD : PyData → Value
  | .none => .type "NoneType"
  | .bool _ => .type "bool"
  | .int _ => .type "int"
  | .str _ => .type "str"
  | .list _ => .type "list"
  | .tuple _ => .type "tuple"
  | .dict _ => .type "dict"
theorem AtX.ty {K : PySem.W.Frag} {H : Hp} {v : V} {d : PyData} (h : AtX H v d) : TyOf K H v (tyD d) := by
  rcases h with h | ⟨e, a, ea, h⟩
  · cases h with
    | non => exact .non
    | bl b => exact .bl b
    | int i => exact .int i
    | str x => exact .str x
    | lst e _ => exact .lst e
    | tup e _ => exact .tup e
  · subst e ea
    exact .dK h
def isTup : PyData → Bool | .tuple _ => true | _ => false
def isLst : PyData → Bool | .list _ => true | _ => false
def isStr : PyData → Bool | .str _ => true | _ => false
def isInt : PyData → Bool | .int _ => true | .bool _ => true | _ => false
def isBl : PyData → Bool | .bool _ => true | _ => false
theorem kit_tup {K : PySem.W.Frag} (d : PyData) : PySem.W.kitOne K (tyD d) (.type "tuple") = some (isTup d) := by cases d <;> rfl
theorem qjd {K : PySem.W.Frag} (d : PyData) : PySem.W.kitOne K (tyD d) (.type "list") = some (isLst d) := by cases d <;> rfl
theorem qjq {K : PySem.W.Frag} (d : PyData) : PySem.W.kitOne K (tyD d) (.type "str") = some (isStr d) := by cases d <;> rfl
theorem kit_int {K : PySem.W.Frag} (d : PyData) : PySem.W.kitOne K (tyD d) (.type "int") = some (isInt d) := by cases d <;> rfl
theorem kit_bl {K : PySem.W.Frag} (d : PyData) : PySem.W.kitOne K (tyD d) (.type "bool") = some (isBl d) := by cases d <;> rfl
section
variable {X : Cx}
end
section
variable {X : Cx}
end
end L2
set_option maxHeartbeats 4000000
namespace L2
open PySem PyProof.Rows
def Lay (L : List Addr) (te : TE) (σ : L2.St) (d : PyData) (H : Hp) : Prop := (∀ b ∈ L, H b ≠ none) → ∀ H1, Same H H1 → ∀ Q : VK, (∀ v H', Same H1 H' → At (yas H' L) v d → Q v H') → te σ H1 Q
def LayA (L : List Addr) (ta : TA) (σ : L2.St) (ds : List PyData) (H : Hp) : Prop := (∀ b ∈ L, H b ≠ none) → ∀ H1, Same H H1 → ∀ Q : List V → Hp → Prop, (∀ vs H', Same H1 H' → AtAll (yas H' L) vs ds → Q vs H') → ta σ H1 Q
theorem yfo {L : List Addr} {H H1 : Hp} {p : Addr} (hL : ∀ b ∈ L, H b ≠ none) (s : Same H H1) (hp : H1 p = none) : p ∉ L := fun z => by
  cases e : H p with
  | none => exact hL p z e
  | some o => rw [s _ _ e] at hp; cases hp
section
variable {K : PySem.W.Frag} {σ : L2.St} {H : Hp} {te tf : TE} {ta : TA} {d : PyData} {ds es : List PyData} {L : List Addr}
theorem qcc : LayA L tNil σ [] H := fun hL H1 s Q k => k [] H1 (Same.refl H1) .nil
theorem yba (h : Lay L te σ d H) (r : LayA L ta σ ds H) : LayA L (yc4 te ta) σ (d :: ds) H := fun hL H1 s Q k =>
  h hL H1 s _ fun v H2 s2 a2 => r hL H2 (s.trans s2) _ fun vs H3 s3 a3 => k (v :: vs) H3 (s2.trans s3) (.cons (a2.same (yaq s3 L)) a3)
theorem qjs {H0 H2 : Hp} {p : Addr} {vs : List V} (hL : ∀ b ∈ L, H0 b ≠ none) (s : Same H0 H2) (hp : H2 p = none) (a : AtAll (yas H2 L) vs ds) : At (yas (upd H2 p (.tup vs)) L) (.ref p) (.tuple ds) :=
  .tup (by rw [ybj (yfo hL s hp)]; exact yaa) (a.same (yaq ((Same.refl H2).upd hp) L))
theorem qeb {H0 H2 : Hp} {p : Addr} {vs : List V} (hL : ∀ b ∈ L, H0 b ≠ none) (s : Same H0 H2) (hp : H2 p = none) (a : AtAll (yas H2 L) vs ds) : At (yas (upd H2 p (.lst vs)) L) (.ref p) (.list ds) :=
  .lst (by rw [ybj (yfo hL s hp)]; exact yaa) (a.same (yaq ((Same.refl H2).upd hp) L))
theorem ydl (h : LayA L ta σ ds H) (z : ds.length ≤ 1000 := by exact Nat.le_of_ble_eq_true rfl) : Lay L (tTup ta) σ (.tuple ds) H := fun hL H1 s Q k =>
  h hL H1 s _ fun vs H2 s2 a2 => ⟨by rw [a2.length]; exact Nat.le_trans z (by decide), fun p hp => k _ _ (s2.upd hp) (qjs hL (s.trans s2) hp a2)⟩
theorem qb8 (h : LayA L ta σ ds H) (z : ds.length ≤ 1000 := by exact Nat.le_of_ble_eq_true rfl) : Lay L (tLst ta) σ (.list ds) H := fun hL H1 s Q k =>
  h hL H1 s _ fun vs H2 s2 a2 => ⟨by rw [a2.length]; exact Nat.le_trans z (by decide), fun p hp => k _ _ (s2.upd hp) (qeb hL (s.trans s2) hp a2)⟩
theorem qcj : Lay L (tC .non) σ .none H := fun hL H1 s Q k => k _ H1 (Same.refl H1) .non
theorem qfn {b : Bool} : Lay L (tC (.bl b)) σ (.bool b) H := fun hL H1 s Q k => k _ H1 (Same.refl H1) (.bl b)
theorem yc3 {i : Int} : Lay L (tC (.int i)) σ (.int i) H := fun hL H1 s Q k => k _ H1 (Same.refl H1) (.int i)
theorem ydq {x : Str} : Lay L (tC (.str x)) σ (.str x) H := fun hL H1 s Q k => k _ H1 (Same.refl H1) (.str x)
theorem qdl {i : Int} : Lay L (tUn (rU fun i => V.int (-i)) (tC (.int i))) σ (.int (-i)) H := fun hL H1 s Q k => ⟨i, rfl, k _ H1 (Same.refl H1) (.int _)⟩
theorem qhm {i j : Int} (h : CPow i j) : Lay L (tOp (rI CPow fun i j => V.int (i ^ j.toNat)) (tC (.int i)) (tC (.int j))) σ (.int (i ^ j.toNat)) H := fun hL H1 s Q k => ⟨i, j, rfl, rfl, h, k _ H1 (Same.refl H1) (.int _)⟩
theorem ybd {i : Nat} {v : V} (hσ : σ[i]? = some (some v)) (h : At (yas H L) v d) : Lay L (tVar i) σ d H := fun hL H1 s Q k => ⟨v, hσ, k v H1 (Same.refl H1) (h.same (yaq s L))⟩
theorem qe6 (h1 : Lay L te σ (.list ds) H) (h2 : Lay L tf σ (.list es) H) (z : ds.length + es.length ≤ 1000) : Lay L (tOp rCat te tf) σ (.list (ds ++ es)) H := fun hL H1 s Q k =>
  h1 hL H1 s _ fun v H2 s2 a2 => h2 hL H2 (s.trans s2) _ fun u H3 s3 a3 => by
    obtain ⟨a, vs, rfl, ha, hw⟩ := (a2.same (yaq s3 L)).lstEq
    obtain ⟨b, us, rfl, hb, hu⟩ := a3.lstEq
    exact ⟨a, b, vs, us, rfl, rfl, qa3 _ _ _ _ ha, qa3 _ _ _ _ hb, by rw [hw.length, hu.length]; exact Nat.le_trans z (by decide), fun p hp => k _ _ ((s2.trans s3).upd hp) (qeb hL ((s.trans s2).trans s3) hp (hw.append hu))⟩
theorem yhb {H : Hp} {vs : List V} {ds : List PyData} (h : AtAll H vs ds) : ∀ n, AtAll H (List.replicate n vs).flatten (List.replicate n ds).flatten
  | 0 => .nil
  | n + 1 => by
    rw [List.replicate_succ, List.replicate_succ, List.flatten_cons, List.flatten_cons]
    exact h.append (yhb h n)
theorem lay_rep {n : Nat} (h1 : Lay L te σ (.list ds) H) (hn : n ≤ 1000) (z : ds.length * n ≤ 1000) : Lay L (tOp rRep te (tC (.int n))) σ (.list (List.replicate n ds).flatten) H := fun hL H1 s Q k =>
  h1 hL H1 s _ fun v H2 s2 a2 => by
    obtain ⟨a, vs, rfl, ha, hw⟩ := a2.lstEq
    refine ⟨a, n, vs, rfl, rfl, qa3 _ _ _ _ ha, by omega, by omega, by rw [hw.length, Int.toNat_natCast]; exact Nat.le_trans z (by decide), fun p hp => k _ _ (s2.upd hp) ?_⟩
    rw [Int.toNat_natCast]
    exact qeb hL (s.trans s2) hp (yhb hw n)
def LayN (t : TE) (σ : L2.St) (n : Nat) : Prop := ∀ H1 (Q : VK), Q (.int n) H1 → t σ H1 Q
theorem lay_nv {i n : Nat} (h : σ[i]? = some (some (.int n))) : LayN (tVar i) σ n := fun H1 Q k => ⟨_, h, k⟩
theorem lay_ns {i n : Nat} (h : σ[i]? = some (some (.int n))) : LayN (tOp (rI0 fun i j => V.int (i + j)) (tVar i) (tC (.int 1))) σ (n + 1) := fun H1 Q k => ⟨_, h, _, _, rfl, rfl, k⟩
theorem lay_take {t : TE} {n : Nat} (h1 : Lay L te σ (.list ds) H) (hn : LayN t σ n) : Lay L (tSl (rSlL K) te yga (tPart t)) σ (.list (ds.take n)) H := fun hL H1 s Q k =>
  h1 hL H1 s _ fun v H2 s2 a2 => hn H2 _ ⟨n, rfl, by
    obtain ⟨a, vs, rfl, ha, hw⟩ := a2.lstEq
    refine ⟨a, vs, rfl, SqL.of (qa3 _ _ _ _ ha), fun p hp => k _ _ (s2.upd hp) ?_⟩
    rw [ygd]
    exact qeb hL (s.trans s2) hp (hw.take n)⟩
theorem lay_drop {t : TE} {n : Nat} (h1 : Lay L te σ (.list ds) H) (hn : LayN t σ n) : Lay L (tSl (rSlL K) te (tPart t) yga) σ (.list (ds.drop n)) H := fun hL H1 s Q k =>
  h1 hL H1 s _ fun v H2 s2 a2 => hn H2 _ ⟨n, rfl, by
    obtain ⟨a, vs, rfl, ha, hw⟩ := a2.lstEq
    refine ⟨a, vs, rfl, SqL.of (qa3 _ _ _ _ ha), fun p hp => k _ _ (s2.upd hp) ?_⟩
    rw [yeq]
    exact qeb hL (s.trans s2) hp (hw.drop n)⟩
def rTupOf (K : PySem.W.Frag) : List V → Hp → VK → Prop := fun xs H Q => ∃ p ys, xs = [.ref p] ∧ ((SqL K H p ys ∧ ∀ l, H l = none → Q (.ref l) (upd H l (.tup ys))) ∨ (SqT K H p ys ∧ Q (.ref p) H))
theorem ygm (h1 : Lay L te σ (.list ds) H) : Lay L (tCB (rTupOf K) (yc4 te tNil)) σ (.tuple ds) H := fun hL H1 s Q k =>
  h1 hL H1 s _ fun v H2 s2 a2 => by
    obtain ⟨a, vs, rfl, ha, hw⟩ := a2.lstEq
    exact ⟨a, vs, rfl, .inl ⟨SqL.of (qa3 _ _ _ _ ha), fun p hp => k _ _ (s2.upd hp) (qjs hL (s.trans s2) hp hw)⟩⟩
theorem gn {i : Nat} {v : V} {σ : L2.St} {H : Hp} {Q : L2.St → Hp → Prop} (h : Q (σ.set i (some v)) H) : yft i v σ H Q := h
theorem hid0 {H : Hp} {v : V} {d : PyData} (h : At H v d) : At (yas H []) v d := h.same fun b o e => by rw [ybj (by simp)]; exact e
theorem lay_go {Q : VK} (h : Lay L te σ d H) (hL : ∀ b ∈ L, H b ≠ none) (k : ∀ v H', Same H H' → At (yas H' L) v d → Q v H') : te σ H Q := h hL H (Same.refl H) Q k
def Sm (D B : Nat) (d : PyData) : Prop := d.showable = true ∧ d.depth ≤ D ∧ d.leavesShort 40 = true ∧ d.bulk ≤ B
theorem Sm.mono {D B D' B' : Nat} {d : PyData} (h : Sm D B d) (h1 : D ≤ D' := by decide) (h2 : B ≤ B' := by decide) : Sm D' B' d := ⟨h.1, Nat.le_trans h.2.1 h1, h.2.2.1, Nat.le_trans h.2.2.2 h2⟩
theorem Sm.list {D B n : Nat} {xs : List PyData} (h : ∀ x ∈ xs, Sm D B x) (hl : xs.length ≤ n) : Sm (D + 1) ((B + 1) * n) (.list xs) := by
  refine ⟨?_, ?_, ?_, ?_⟩
  · simp only [PyData.showable]
    exact Spec.showableAll_of fun x hx => (h x hx).1
  · have := qcr (n := D) (xs := xs) fun x hx => (h x hx).2.1
    simp only [PyData.depth]
    omega
  · unfold PyData.leavesShort
    exact qdm fun x hx => (h x hx).2.2.1
  · have := yd6 (n := B) (xs := xs) fun x hx => (h x hx).2.2.2
    simp only [PyData.bulk]
    exact Nat.le_trans this (Nat.mul_le_mul_left _ hl)
theorem Sm.tuple {D B n : Nat} {xs : List PyData} (h : ∀ x ∈ xs, Sm D B x) (hl : xs.length ≤ n) : Sm (D + 1) ((B + 1) * n) (.tuple xs) := by
  refine ⟨?_, ?_, ?_, ?_⟩
  · simp only [PyData.showable]
    exact Spec.showableAll_of fun x hx => (h x hx).1
  · have := qcr (n := D) (xs := xs) fun x hx => (h x hx).2.1
    simp only [PyData.depth]
    omega
  · unfold PyData.leavesShort
    exact qdm fun x hx => (h x hx).2.2.1
  · have := yd6 (n := B) (xs := xs) fun x hx => (h x hx).2.2.2
    simp only [PyData.bulk]
    exact Nat.le_trans this (Nat.mul_le_mul_left _ hl)
theorem Sm.shown {D B : Nat} {d : PyData} (h : Sm D B d) (hD : D ≤ 60 := by decide) (hB : B ≤ 100000 := by decide) : d.showable = true ∧ d.depth ≤ 60 ∧ d.shown.length ≤ sizeLine := by
  refine ⟨h.1, Nat.le_trans h.2.1 hD, ?_⟩
  have h1 := PyData.shown_le_bulk 40 (by decide) d h.2.2.1
  have h2 := h.2.2.2
  have hsl : (sizeLine : Nat) = 16777216 := rfl
  omega
end
section
variable {X : Cx}
end
end L2
namespace L2
open PySem PySem.Spec PyProof.Rows
def Srt (xs : Array Nat) : Prop := ∀ (i j : Nat) (x y : Nat), i < j → xs[i]? = some x → xs[j]? = some y → x < y
theorem ygg (xs : Array Nat) (j : Nat) (hs : Srt xs) : ∀ (fuel lo hi : Nat), hi - lo ≤ fuel → lo ≤ hi → hi ≤ xs.size → (∀ k x, k < lo → xs[k]? = some x → x < j) → (∀ k x, hi ≤ k → xs[k]? = some x → j ≤ x) →
    (∀ k x, k < SetTable.below.go xs j fuel lo hi → xs[k]? = some x → x < j) ∧ (∀ k x, SetTable.below.go xs j fuel lo hi ≤ k → xs[k]? = some x → j ≤ x) ∧ SetTable.below.go xs j fuel lo hi ≤ xs.size
  | 0, lo, hi, hf, h1, h2, ha, hb => by
    have e : lo = hi := by omega
    subst e
    exact ⟨ha, hb, h2⟩
  | fuel + 1, lo, hi, hf, h1, h2, ha, hb => by
    unfold SetTable.below.go
    by_cases hlt : lo < hi
    · rw [if_pos hlt]
      have hm : (lo + hi) / 2 < xs.size := by omega
      have hg : xs[(lo + hi) / 2]? = some (xs.getD ((lo + hi) / 2) j) := by
        rw [Array.getD_eq_getD_getElem?, Array.getElem?_eq_getElem hm]; rfl
      dsimp only
      by_cases hc : xs.getD ((lo + hi) / 2) j < j
      · rw [if_pos hc]
        refine ygg xs j hs fuel _ hi (by omega) (by omega) h2 (fun k x hk hx => ?_) hb
        by_cases he : k = (lo + hi) / 2
        · subst he; rw [hg] at hx; cases hx; exact hc
        · have := hs k ((lo + hi) / 2) x _ (by omega) hx hg
          omega
      · rw [if_neg hc]
        refine ygg xs j hs fuel lo _ (by omega) (by omega) (by omega) ha (fun k x hk hx => ?_)
        by_cases he : k = (lo + hi) / 2
        · subst he; rw [hg] at hx; cases hx; omega
        · have := hs ((lo + hi) / 2) k _ x (by omega) hg hx
          omega
    · rw [if_neg hlt]
      have e : lo = hi := by omega
      subst e
      exact ⟨ha, hb, h2⟩
theorem yh8 {xs : Array Nat} (j : Nat) (hs : Srt xs) : (∀ k x, k < SetTable.below xs j → xs[k]? = some x → x < j) ∧ (∀ k x, SetTable.below xs j ≤ k → xs[k]? = some x → j ≤ x) ∧ SetTable.below xs j ≤ xs.size := by
  unfold SetTable.below
  refine ygg xs j hs xs.size 0 xs.size (by omega) (Nat.zero_le _) (Nat.le_refl _) (fun k x h => absurd h (Nat.not_lt_zero _)) (fun k x h hx => ?_)
  rw [Array.getElem?_eq_none h] at hx; cases hx
theorem qh0 {xs : Array Nat} {j n : Nat} (hs : Srt xs) (hn : n ≤ xs.size) (h1 : ∀ k x, k < n → xs[k]? = some x → x < j) (h2 : ∀ k x, n ≤ k → xs[k]? = some x → j ≤ x) : SetTable.below xs j = n := by
  obtain ⟨b1, b2, b3⟩ := yh8 j hs
  rcases Nat.lt_trichotomy (SetTable.below xs j) n with h | h | h
  · have hlt : SetTable.below xs j < xs.size := by omega
    have g := Array.getElem?_eq_getElem hlt
    have := h1 _ _ h g
    have := b2 _ _ (Nat.le_refl _) g
    omega
  · exact h
  · have hlt : n < xs.size := by omega
    have g := Array.getElem?_eq_getElem hlt
    have := h2 _ _ (Nat.le_refl _) g
    have := b1 _ _ h g
    omega
theorem qg7 {α : Type} (xs : Array α) (p : Nat) (x : α) (hp : p ≤ xs.size) (i : Nat) : (SetTable.insertAt xs p x)[i]? = if i < p then xs[i]? else if i = p then some x else xs[i - 1]? := by
  unfold SetTable.insertAt
  have e1 : ((xs.extract 0 p).push x ++ xs.extract p xs.size).toList = xs.toList.take p ++ x :: xs.toList.drop p := by
    simp
    exact List.take_of_length_le (by simp)
  rw [← Array.getElem?_toList, e1]
  have hl : (xs.toList.take p).length = p := by rw [List.length_take, Array.length_toList]; omega
  by_cases h1 : i < p
  · rw [if_pos h1, List.getElem?_append_left (by omega), List.getElem?_take_of_lt h1, Array.getElem?_toList]
  · rw [if_neg h1, List.getElem?_append_right (by omega), hl]
    by_cases h2 : i = p
    · rw [if_pos h2, h2, Nat.sub_self]; rfl
    · rw [if_neg h2]
      obtain ⟨d, hd⟩ : ∃ d, i - p = d + 1 := ⟨i - p - 1, by omega⟩
      rw [hd, List.getElem?_cons_succ, List.getElem?_drop, Array.getElem?_toList]
      congr 1
      omega
theorem yit {xs : Array Nat} {j : Nat} (hs : Srt xs) (hj : xs[SetTable.below xs j]? ≠ some j) : Srt (SetTable.insertAt xs (SetTable.below xs j) j) := by
  obtain ⟨b1, b2, b3⟩ := yh8 j hs
  have hgt : ∀ k x, SetTable.below xs j ≤ k → xs[k]? = some x → j < x := fun k x hk hx => by
    have h1 := b2 k x hk hx
    by_cases he : x = j
    · subst he
      by_cases hk2 : k = SetTable.below xs x
      · subst hk2; exact absurd hx hj
      · have hlt : SetTable.below xs x < xs.size := by
          have := (Array.getElem?_eq_some_iff.mp hx).1
          omega
        have g := Array.getElem?_eq_getElem hlt
        have h2 := hs _ k _ x (by omega) g hx
        have h3 := b2 _ _ (Nat.le_refl _) g
        omega
    · omega
  intro a b x y hab hx hy
  rw [qg7 _ _ _ b3] at hx hy
  by_cases ha : a < SetTable.below xs j
  · rw [if_pos ha] at hx
    by_cases hb : b < SetTable.below xs j
    · rw [if_pos hb] at hy
      exact hs a b x y hab hx hy
    · rw [if_neg hb] at hy
      have hxj := b1 a x ha hx
      by_cases hb2 : b = SetTable.below xs j
      · rw [if_pos hb2] at hy; cases hy; exact hxj
      · rw [if_neg hb2] at hy
        have := hgt (b - 1) y (by omega) hy
        omega
  · rw [if_neg ha] at hx
    have hb : ¬ b < SetTable.below xs j := by omega
    rw [if_neg hb] at hy
    by_cases ha2 : a = SetTable.below xs j
    · rw [if_pos ha2] at hx
      cases hx
      rw [if_neg (by omega)] at hy
      exact hgt (b - 1) y (by omega) hy
    · rw [if_neg ha2] at hx
      rw [if_neg (by omega)] at hy
      exact hs (a - 1) (b - 1) x y (by omega) hx hy
theorem yi5 (n : Nat) : Srt (Array.range n) := by
  intro i j x y hij hx hy
  have h1 := (Array.getElem?_eq_some_iff.mp hx).2
  have h2 := (Array.getElem?_eq_some_iff.mp hy).2
  simp at h1 h2
  omega
theorem srt_of {l : List Nat} (h : l.Pairwise (· < ·)) : Srt l.toArray := by
  intro i j x y hij hx hy
  have hx' : l[i]? = some x := by simpa using hx
  have hy' : l[j]? = some y := by simpa using hy
  obtain ⟨hi, e1⟩ := List.getElem?_eq_some_iff.mp hx'
  obtain ⟨hj, e2⟩ := List.getElem?_eq_some_iff.mp hy'
  have := List.pairwise_iff_getElem.mp h i j hi hj hij
  rw [e1, e2] at this
  exact this
def TOk (t : SetTable) : Prop := Srt t.place ∧ t.dummies = #[]
theorem yii (j : Nat) : SetTable.has #[] j = false := by
  unfold SetTable.has
  simp
theorem slot_no {t : SetTable} (h : TOk t) (j : Nat) : t.slot j ≠ .dummy := by
  unfold SetTable.slot
  rw [h.2, yii]
  dsimp only
  split
  · intro z; cases z
  · simp
theorem qio {t : SetTable} {j : Nat} (h : t.slot j = .empty) : t.place[SetTable.below t.place j]? ≠ some j := by
  intro e
  unfold SetTable.slot at h
  dsimp only at h
  rw [if_pos (by rw [e]; simp)] at h
  cases h
theorem qgf (t : SetTable) (p : SetTable.Probe) : (t.advance p).dummy = p.dummy := by
  unfold SetTable.advance
  split <;> rfl
theorem qe4 {t : SetTable} (ht : TOk t) (f : Nat → Int) (h : Int) : ∀ (fuel : Nat) (p : SetTable.Probe) (j : Nat) (d : Option Nat), p.dummy = none → SetTable.probe.go t f h fuel p = some (.empty j d) → t.slot j = .empty ∧ d = none
  | 0, p, j, d, hp, e => by
    unfold SetTable.probe.go at e
    cases e
  | fuel + 1, p, j, d, hp, e => by
    unfold SetTable.probe.go at e
    split at e
    · rename_i hs
      cases e
      exact ⟨hs, hp⟩
    · rename_i hs
      exact absurd hs (slot_no ht _)
    · split at e
      · cases e
      · exact qe4 ht f h fuel _ j d (by rw [qgf]; exact hp) e
theorem qht {t : SetTable} (ht : TOk t) {h : Int} {j : Nat} {b : Bool} (e : t.freeSlot h = some (j, b)) : t.slot j = .empty := by
  unfold SetTable.freeSlot at e
  split at e
  · rename_i j' d hp
    have hq : SetTable.probe.go t (fun _ => h + 1) h (10 * SetTable.turns t.mask) (t.probeStart h) = some (.empty j' d) := hp
    obtain ⟨h1, h2⟩ := qe4 ht _ _ _ _ _ _ rfl hq
    subst h2
    cases e
    exact h1
  · cases e
theorem put_ok {t : SetTable} (ht : TOk t) {j : Nat} (h : t.slot j = .empty) : TOk (t.put j).1 ∧ (t.put j).1.led = t.led := by
  refine ⟨⟨yit ht.1 (qio h), ?_⟩, rfl⟩
  show (if SetTable.has t.dummies j then SetTable.eraseAt t.dummies (SetTable.below t.dummies j) else t.dummies) = #[]
  rw [ht.2, yii]
  rfl
theorem ydc (t : SetTable) (n : Nat) : TOk (t.standIn n) ∧ (t.standIn n).led = t.led := ⟨⟨yi5 n, rfl⟩, rfl⟩
theorem qg0 {t : SetTable} (ht : TOk t) (n : Nat) : TOk (t.orStandIn n) ∧ (t.orStandIn n).led = t.led := by
  unfold SetTable.orStandIn
  split
  · exact ⟨ht, rfl⟩
  · exact ydc t n
theorem yjy {t : SetTable} (ht : TOk t) (es : Array (Int × Value)) (h : Int) (x : Value) : TOk (layNew t es h x).2.1 ∧ (layNew t es h x).2.1.led = t.led := by
  unfold layNew
  split
  · rename_i j b e
    have hp := put_ok ht (qht ht e)
    have ho := qg0 hp.1 (SetTable.insertAt es (t.put j).2 (h, x)).size
    exact ⟨ho.1, ho.2.trans hp.2⟩
  · exact ydc t _
theorem ydu {α : Type} (f : Nat → Option α) : ∀ (l : List Nat), l.Pairwise (· < ·) → ((l.filterMap fun j => (f j).map (j, ·)).map (·.1)).Pairwise (· < ·) := by
  intro l hl
  have hsub : ((l.filterMap fun j => (f j).map (j, ·)).map (·.1)).Sublist l := by
    induction l with
    | nil => exact .slnil
    | cons a l ih =>
      rw [List.filterMap_cons]
      have := ih (List.pairwise_cons.mp hl).2
      cases f a with
      | none => exact .cons _ this
      | some b => exact .cons₂ _ this
  exact hl.sublist hsub
theorem qkh {t t' : SetTable} {hs : Array Int} {n : Nat} {o : Array Nat} (e : t.relaid hs n = some (t', o)) : TOk t' ∧ t'.led = t.led := by
  unfold SetTable.relaid SetTable.laid at e
  cases ho : SetTable.layClean (SetTable.sizeAbove n - 1) hs with
  | none => rw [ho] at e; cases e
  | some owner =>
    rw [ho] at e
    cases e
    refine ⟨⟨srt_of ?_, rfl⟩, rfl⟩
    exact ydu (fun j => owner.getD j none) _ List.pairwise_lt_range
theorem yhf {t : SetTable} (es : Array (Int × Value)) (n : Nat) : TOk (relayAll t es n).2.1 ∧ (relayAll t es n).2.1.led = t.led := by
  unfold relayAll
  split
  · rename_i t' o e
    dsimp only
    split
    · exact qkh e
    · exact ydc t _
  · exact ydc t _
def byTx (w : World) : Bool := w.params.followText "set-order"
def SetL (P : Program) (w : World) (h : Heap) (a : Addr) (ks : List Int) : Prop :=
  ∃ o es ep t, h.get? a = some o ∧ o.ExactSet ∧ o.data = .set es ep t ∧ ElemsOf (intKind P w) es.toList ∧ (∃ ns, IntsAre (es.toList.map (·.2)) ns ∧ ns.Perm ks) ∧ es.size < scanBound ∧ t.fits es.size = true ∧ TOk t ∧ (byTx w = true ∨ t.led = true)
theorem ydz {vs' vs : List Value} (p : vs'.Perm vs) : ∀ {ns : List Int}, IntsAre vs ns → ∃ ns', IntsAre vs' ns' ∧ ns'.Perm ns := by
  induction p with
  | nil => intro ns h; exact ⟨ns, h, List.Perm.refl _⟩
  | cons x _ ih =>
    intro ns h
    cases h with
    | cons n t r =>
      obtain ⟨ns', h1, h2⟩ := ih r
      exact ⟨n :: ns', .cons n t h1, h2.cons n⟩
  | swap x y l =>
    intro ns h
    cases h with
    | cons n t r =>
      cases r with
      | cons m u r => exact ⟨m :: n :: _, .cons m u (.cons n t r), List.Perm.swap ..⟩
  | trans _ _ ih1 ih2 =>
    intro ns h
    obtain ⟨n1, a1, b1⟩ := ih2 h
    obtain ⟨n2, a2, b2⟩ := ih1 a1
    exact ⟨n2, a2, b2.trans b1⟩
theorem yf7 : ∀ {vs : List Value} {ns : List Int}, IntsAre vs ns → (∀ v ∈ vs, ∃ n t, v = .int n t ∧ n ∈ ns) ∧ ∀ n ∈ ns, ∃ t, Value.int n t ∈ vs
  | _, _, .nil => ⟨fun v h => by simp at h, fun n h => by simp at h⟩
  | _, _, .cons n t r => by
    obtain ⟨h1, h2⟩ := yf7 r
    refine ⟨fun v hv => ?_, fun m hm => ?_⟩
    · rcases List.mem_cons.mp hv with rfl | hv
      · exact ⟨n, t, rfl, List.mem_cons_self ..⟩
      · obtain ⟨m, u, e, hm⟩ := h1 v hv
        exact ⟨m, u, e, List.mem_cons_of_mem _ hm⟩
    · rcases List.mem_cons.mp hm with rfl | hm
      · exact ⟨t, List.mem_cons_self ..⟩
      · obtain ⟨u, hu⟩ := h2 m hm
        exact ⟨u, List.mem_cons_of_mem _ hu⟩
theorem qgp : ∀ {vs : List Value} {ns : List Int} (k : Int) (t : Tok), IntsAre vs ns → IntsAre (vs ++ [.int k t]) (ns ++ [k])
  | _, _, k, t, .nil => .cons k t .nil
  | _, _, k, t, .cons n u r => .cons n u (qgp k t r)
section
variable {P : Program} {w : World} {A : Around} {E : Value → Shared → Prop} {s : Shared} {a : Addr} {ks : List Int}
theorem storeL {o : Obj} {es : Array (Int × Value)} {ep : Nat} {t : SetTable} {es' : Array (Int × Value)} {t' : SetTable} {ks' : List Int} {h : Heap} (g : h.get? a = some o) (gx : o.ExactSet) (gd : o.data = .set es ep t)
    (el : ElemsOf (intKind P w) es'.toList) (hv : ∃ ns, IntsAre (es'.toList.map (·.2)) ns ∧ ns.Perm ks') (hb : es'.size < scanBound) (hf : t'.fits es'.size = true) (ht : TOk t') (hl : byTx w = true ∨ t'.led = true) :
    (h.update a (Obj.putSet es' t')).get? a = some { o with data := .set es' (ep + 1) t' } ∧ SetL P w (h.update a (Obj.putSet es' t')) a ks' := by
  have hg : (h.update a (Obj.putSet es' t')).get? a = some { o with data := .set es' (ep + 1) t' } := by
    have z := Heap.get?_update_self (Obj.putSet es' t') g (by rw [putSet_of es' t' gd]; rfl)
    rw [putSet_of es' t' gd] at z
    exact z
  exact ⟨hg, _, es', ep + 1, t', hg, gx, rfl, el, hv, hb, hf, ht, hl⟩
theorem addL {k : Int} {tk : Tok} {Q : Bool → Shared → Prop} (hS : SetL P w s.heap a ks) (hroom : ks.length + 1 < scanBound)
    (h : ∀ b h', Heap.SameBut a s.heap h' → SetL P w h' a (if k ∈ ks then ks else ks ++ [k]) → Q b { s with heap := h' }) :
    wpAny (model P w) A (setAddHashed a (.int k tk) ((intKind P w).hash k)) Q E s := by
  obtain ⟨o, es, ep, t, g, gx, gd, el, ⟨ns, hi, hp⟩, hb, hf, ht, hl⟩ := hS
  have hlen : es.size = ks.length := by
    have h1 := IntsAre.length hi
    rw [List.length_map, Array.length_toList] at h1
    rw [h1, hp.length_eq]
  have kk : (intKind P w).is k (.int k tk) = true := intKind_is _ _ _ _
  unfold setAddHashed setAddHashedIn
  refine wpAny_holding (wpAny_bind (wpAny_setState_of g gd hf ?_))
  dsimp only
  rw [byScan_of (knd := intKind P w) rfl hb el]
  simp only [↓reduceIte]
  unfold setAddByScan
  refine wpAny_bind ?_
  refine wpAny_bind (wpAny_rule ?_)
  refine wpAny_bind (wpAny_setScan_of kk g gd hf el ?_)
  have same : ∀ m u, (intKind P w).is k (.int m u) = true → m = k := fun m u z => (intKind P w).inj _ m k (intKind_is _ _ _ _) z
  cases hr : List.findIdx? (fun e => (intKind P w).is k e.2) es.toList with
  | some j =>
    dsimp only
    obtain ⟨hj, hpj, _⟩ := List.findIdx?_eq_some_iff_getElem.mp hr
    have hin : k ∈ ks := by
      obtain ⟨m, u, e, hm⟩ := (yf7 hi).1 (es.toList[j]).2 (List.mem_map.mpr ⟨_, List.getElem_mem hj, rfl⟩)
      rw [e] at hpj
      have := same m u hpj
      subst this
      exact hp.mem_iff.mp hm
    refine wpAny_pure (wpAny_pure ?_)
    have e : s = { s with heap := s.heap } := by cases s; rfl
    have z := h false s.heap (Heap.SameBut.refl a s.heap) (by rw [if_pos hin]; exact ⟨o, es, ep, t, g, gx, gd, el, ⟨ns, hi, hp⟩, hb, hf, ht, hl⟩)
    rw [e]
    exact z
  | none =>
    dsimp only
    have hout : k ∉ ks := fun hin => by
      obtain ⟨u, hu⟩ := (yf7 hi).2 k (hp.mem_iff.mpr hin)
      obtain ⟨e, he, e2⟩ := List.mem_map.mp hu
      have z := List.findIdx?_eq_none_iff.mp hr e he
      rw [e2] at z
      rw [show (intKind P w).is k (.int k u) = true from intKind_is _ _ _ _] at z
      cases z
    rw [if_neg hout] at h
    have gw : ∀ (b : Bool) {s1 : Shared} {Q' : Unit → Shared → Prop}, Q' () s1 → wpAny (model P w) A (match b with | true => rule "set.scan.the-table-gave-way" | false => pure ()) Q' E s1 := fun b s1 Q' z => by cases b <;> first | exact wpAny_pure z | exact wpAny_rule z
    have pm := layNew_perm t es ((intKind P w).hash k) (.int k tk)
    have fm := layNew_fits t es ((intKind P w).hash k) (.int k tk)
    have tm := yjy ht es ((intKind P w).hash k) (.int k tk)
    generalize hL : layNew t es ((intKind P w).hash k) (.int k tk) = L at pm fm tm ⊢
    obtain ⟨es1, t1, wasDummy, gave⟩ := L
    dsimp only at pm fm tm ⊢
    rw [Array.toList_push] at pm
    have el1 : ElemsOf (intKind P w) es1.toList := (el.push kk rfl).perm pm
    have hv1 : ∃ ns, IntsAre (es1.toList.map (·.2)) ns ∧ ns.Perm (ks ++ [k]) := by
      have q := pm.map (·.2)
      rw [List.map_append] at q
      obtain ⟨n1, i1, p1⟩ := ydz q (qgp k tk hi)
      exact ⟨n1, i1, p1.trans (hp.append_right [k])⟩
    have sz1 : es1.size = ks.length + 1 := by
      rw [← Array.length_toList, pm.length_eq, List.length_append, Array.length_toList, hlen]; rfl
    have hb1 : es1.size < scanBound := by rw [sz1]; exact hroom
    refine wpAny_bind (gw _ ?_)
    have tail : ∀ (t2 : SetTable), t2.fits es1.size = true → TOk t2 → (byTx w = true ∨ t2.led = true) → wpAny (model P w) A (do
        storeSet a es1 t2
        if (!wasDummy && t2.tooFull) = true then do
            (match (relayAll t2 es1 (SetTable.grown es1.size)).2.2 with | true => rule "set.scan.the-table-gave-way" | false => pure ())
            storeSet a (relayAll t2 es1 (SetTable.grown es1.size)).1 (relayAll t2 es1 (SetTable.grown es1.size)).2.1
            pure (some true)
          else pure (some true)) (fun r s1 => wpAny (model P w) A (match r with | some added => pure added | none => setAddHashedIn a (.int k tk) ((intKind P w).hash k) 99999) Q E s1) E s := by
      intro t2 f2 k2 l2
      refine wpAny_bind (wpAny_storeSet_of g gd ?_ (fits_of_scanBound hb1))
      obtain ⟨g1, S1⟩ := storeL (P := P) (w := w) g gx gd el1 hv1 hb1 f2 k2 l2
      have sb1 := Heap.SameBut.update s.heap a (Obj.putSet es1 t2)
      split
      · have pr := relayAll_perm t2 es1 (SetTable.grown es1.size)
        have fr := relayAll_fits t2 es1 (SetTable.grown es1.size)
        have tr := yhf (t := t2) es1 (SetTable.grown es1.size)
        generalize hR : relayAll t2 es1 (SetTable.grown es1.size) = R at pr fr tr ⊢
        obtain ⟨es2, t3, gave2⟩ := R
        dsimp only at pr fr tr ⊢
        have sz2 : es2.size = es1.size := by rw [← Array.length_toList, pr.length_eq, Array.length_toList]
        have hb2 : es2.size < scanBound := by rw [sz2]; exact hb1
        refine wpAny_bind (gw _ ?_)
        refine wpAny_bind (wpAny_storeSet_of g1 rfl ?_ (fits_of_scanBound hb2))
        have hv2 : ∃ ns, IntsAre (es2.toList.map (·.2)) ns ∧ ns.Perm (ks ++ [k]) := by
          obtain ⟨n1, i1, p1⟩ := hv1
          obtain ⟨n2, i2, p2⟩ := ydz (pr.map (·.2)) i1
          exact ⟨n2, i2, p2.trans p1⟩
        obtain ⟨_, S2⟩ := storeL (P := P) (w := w) g1 gx rfl (el1.perm pr) hv2 hb2 fr tr.1 (l2.imp id fun z => tr.2.trans z)
        exact wpAny_pure (wpAny_pure (h true _ (sb1.trans (Heap.SameBut.update _ a _)) S2))
      · exact wpAny_pure (wpAny_pure (h true _ sb1 S1))
    have l1 : byTx w = true ∨ t1.led = true := hl.imp id fun z => tm.2.trans z
    split
    · refine wpAny_bind ?_
      rw [hashByValue_scannable 8 (rfl : (Value.int k tk).scannable = true)]
      refine wpAny_pure ?_
      split
      · exact tail t1 fm tm.1 l1
      · exact tail { t1 with plain := false } (SetTable.fits_plain_off fm) tm.1 l1
    · refine wpAny_bind (wpAny_pure ?_)
      simp only [↓reduceIte]
      exact tail t1 fm tm.1 l1
end
def ya3 (f : Nat → Int) : Nat → List Int
  | 0 => []
  | i + 1 => if f i ∈ ya3 f i then ya3 f i else ya3 f i ++ [f i]
theorem qd6 (f : Nat → Int) : ∀ i, (ya3 f i).length ≤ i
  | 0 => Nat.le_refl _
  | i + 1 => by
    have ih := qd6 f i
    unfold ya3
    split
    · omega
    · rw [List.length_append]; show _ + 1 ≤ _; omega
theorem SetL.at {P : Program} {w : World} {h h' : Heap} {a : Addr} {ks : List Int} (x : SetL P w h a ks) (k : ∀ o, h.get? a = some o → h'.get? a = some o) : SetL P w h' a ks := by
  obtain ⟨o, es, ep, t, g, r⟩ := x
  exact ⟨o, es, ep, t, k o g, r⟩
section
variable {P : Program} {w : World} {A : Around} {R : Result → Shared → Prop} {I : Addr} {fp wr : List Addr} {G : Array GenState → Array GenState → Prop} {n : Nat} {Pv : Nat → Value → Prop} {St : Nat → Shared → Prop}
theorem loopL (W : WalksS P w A.in1 I fp wr G n Pv St) (d : Addr) (hd : d ∉ fp) (f : Nat → Int) (hf : ∀ i v, Pv i v → ∃ t, v = .int (f i) t) (hb : n + 1 < scanBound) : ∀ (k i : Nat) (s : Shared), n - i = k → i ≤ n → St i s → SetL P w s.heap d (ya3 f i) →
      (∀ s', Moved (d :: wr) G s s' → SetL P w s'.heap d (ya3 f n) → R (.ok (.ret .none)) s') → codeAny (model P w) A (.builtin "set.update.loop" ⟨[.ref d, .ref I], []⟩) R s := by
  have hw : d ∉ wr := fun z => hd (W.sub _ z)
  have up : ∀ b ∈ wr, b ∈ d :: wr := fun b z => List.mem_cons_of_mem _ z
  intro k
  induction k with
  | zero =>
    intro i s hk hi st hS hR
    have e : i = n := by omega
    subst e
    refine codeAny_builtin F.entry_set_update_loop ?_
    rw [Around.under_plainId F.plain_set_update_loop _]
    show wpAny _ A.in1 (pyNext (.ref I) >>= _) _ _ _
    refine wpAny_bind (W.done s _ _ st fun s' m => ?_)
    show wpAny _ A.in1 (ret Value.none) _ _ _
    exact wpAny_pure (hR s' (m.mono up) (hS.at fun o g => m.heap d o hw g))
  | succ k ih =>
    intro i s hk hi st hS hR
    have hlt : i < n := by omega
    refine codeAny_builtin F.entry_set_update_loop ?_
    rw [Around.under_plainId F.plain_set_update_loop _]
    show wpAny _ A.in1 (pyNext (.ref I) >>= _) _ _ _
    refine wpAny_bind (W.item i s _ _ hlt st fun v s' hP st' m => ?_)
    obtain ⟨t, rfl⟩ := hf i v hP
    have hS' : SetL P w s'.heap d (ya3 f i) := hS.at fun o g => m.heap d o hw g
    show wpAny _ A.in1 (holding [Value.int (f i) t] (setAdd d (.int (f i) t)) >>= _) _ _ _
    refine wpAny_bind (wpAny_holding ?_)
    unfold setAdd
    refine wpAny_holding ?_
    refine wpAny_bind ((intKind P w).pyHash (k := f i) (intKind_is _ _ _ _) ?_)
    have room : (ya3 f i).length + 1 < scanBound := by have := qd6 f i; omega
    refine addL (s := { s' with toks := s'.toks + 1 }) hS' room fun b h' sb S2 => ?_
    have S3 : SetL P w h' d (ya3 f (i + 1)) := S2
    refine wpAny_pure ⟨plainId_quiet F.plain_set_update_loop _, ?_⟩
    refine ih (i + 1) _ (by omega) hlt (W.frame _ s' _ _ st' (Nat.le_succ _) fun b hb o g => ?_) S3 fun s2 m2 S4 => ?_
    · rw [sb.2 b (fun z : b = d => hd (by rw [← z]; exact hb))]; exact g
    · refine hR s2 (Moved.trans W.gtrans ((m.mono up).then_heap (Nat.le_succ _) fun b o hb g => ?_) m2) S4
      rw [sb.2 b (fun z : b = d => hb (by rw [z]; exact List.mem_cons_self))]; exact g
end
section
variable {P : Program} {w : World} {A : Around} {E : Value → Shared → Prop} {s : Shared}
theorem newL (v : Value) {Q1 : Value → Shared → Prop} (h : Q1 (.ref s.heap.objs.size) { s with heap := s.heap.push { cls := .type "set", dict := none, data := .set #[] 0 (.fresh 0 0 (!byTx w)) } }) :
    codeAny (model P w) A (.call (.builtin "set.__new__") ⟨[.type "set", v], []⟩) (wants Q1 E) s := by
  refine codeAny_of_tree ?_
  show wpAny _ A.in1 (do checkBuiltinCall "set.__new__" ⟨[.type "set", v], []⟩; again (.builtin "set.__new__" ⟨[.type "set", v], []⟩)) _ _ s
  refine wpAny_bind (wpAny_of_eq (F.newCall_set_1 v) (wpAny_pure ⟨plainId_quiet F.plain_set_new _, ?_⟩))
  refine codeAny_builtin F.entry_set_new ?_
  rw [Around.under_plainId F.plain_set_new _]
  unfold Builtin.«set.__new__» Builtin.Frozenset.newClass
  have hsub := sub_set_self
  obtain ⟨hp, g, d, tk, os⟩ := s
  dsimp only
  wp_walk
  refine wpAny_askSetting ?_
  refine wpAny_pure ?_
  dsimp only
  simp only [newObj]
  refine wpAny_bind (wpAny_alloc ?_)
  exact wpAny_pure (wpAny_pure h)
theorem SetL.new {h : Heap} {a : Addr} (g : h.get? a = some { cls := .type "set", dict := none, data := .set #[] 0 (.fresh 0 0 (!byTx w)) }) : SetL P w h a [] := by
  refine ⟨_, #[], 0, _, g, ⟨rfl, rfl, rfl⟩, rfl, fun e he => by simp at he, ⟨[], .nil, List.Perm.refl _⟩, by decide, rfl, ⟨fun i j x y _ hx => by simp [SetTable.fresh] at hx, rfl⟩, ?_⟩
  cases byTx w
  · exact .inr rfl
  · exact .inl rfl
set_option maxHeartbeats 6400000 in
theorem qjn {l : Addr} {its : Array Value} {ns : List Int} {Q : Value → Shared → Prop} (hh : A.handled = none) (hl : s.heap.IsList l its) (hi : IntsAre its.toList ns) (hb : its.size + 1 < scanBound)
    (k : ∀ (h' : Heap) (tk : Nat), SetL P w h' s.heap.objs.size (ya3 (fun i => ns.getD i 0) its.size) → (∀ b o, b < s.heap.objs.size → s.heap.get? b = some o → h'.get? b = some o) → Q (.ref s.heap.objs.size) { s with heap := h', toks := tk }) :
    wpAny (model P w) A (call (.type "set") [.ref l]) Q E s := by
  obtain ⟨c0, tl0, c1⟩ := F.called_set.mro
  have c2 := F.called_set.made
  have c3 := F.called_set.sub
  refine wpAny_call (codeAny_of_tree ?_)
  show wpAny _ _ (callAny (.type "set") _) _ _ s
  refine wpAny_pure ⟨?_, ?_⟩
  · exact Code.quiet_builtin _ (by decide +kernel)
  refine codeAny_builtin F.entry_type_call ?_
  rw [Around.under_plain (weight_type_call_type "set" [.ref l] []) rfl]
  have c4 := F.called_set.notType
  have c5 := F.called_set.canCreate
  have c6 := F.typeCall_set_1 (.ref l)
  repeat (any_goals first | assumption | wp_step)
  refine codeAny_mono (newL (.ref l) (E := E) (Q1 := fun v s1 => v = .ref s.heap.objs.size ∧ s1 = { s with heap := s.heap.push { cls := .type "set", dict := none, data := .set #[] 0 (.fresh 0 0 (!byTx w)) } }) ⟨rfl, rfl⟩) fun r s1 hr => ?_
  cases r with
  | error e => exact hr
  | ok fl =>
    cases fl with
    | ret v =>
      obtain ⟨rfl, rfl⟩ := hr
      have g1 : (s.heap.push { cls := .type "set", dict := none, data := .set #[] 0 (.fresh 0 0 (!byTx w)) }).get? s.heap.objs.size = some { cls := .type "set", dict := none, data := .set #[] 0 (.fresh 0 0 (!byTx w)) } := Heap.get?_push_size _ rfl
      have c7 : Shared.TypeIs { s with heap := s.heap.push { cls := .type "set", dict := none, data := .set #[] 0 (.fresh 0 0 (!byTx w)) } } (.ref s.heap.objs.size) "set" := ⟨_, g1, rfl⟩
      have c8 := F.called_set.init.lookup
      have c9 := F.called_set.init.bind (.ref s.heap.objs.size)
      repeat (any_goals first | assumption | wp_step)
      refine codeAny_mono (codeAny_call_builtin (R := wants (fun r s2 => r = .none ∧ ∃ h' tk, s2 = { s with heap := h', toks := tk } ∧ SetL P w h' s.heap.objs.size (ya3 (fun i => ns.getD i 0) its.size) ∧
          (∀ b o, b < s.heap.objs.size → s.heap.get? b = some o → h'.get? b = some o)) E) F.called_set.init.plain F.entry_set_init (check_set_init_1 c7 ?_)) fun r2 s2 hr2 => ?_
      · obtain ⟨ol, gl, cl, nl, dl⟩ := hl
        obtain ⟨qc, qd, qa, qs⟩ := ol
        simp only at cl dl
        subst cl
        subst dl
        have gl' : (s.heap.push { cls := .type "set", dict := none, data := .set #[] 0 (.fresh 0 0 (!byTx w)) }).get? l = some { cls := .type "list", dict := qd, data := .seq its nl, slots := qs } := Heap.get?_push_of_some _ gl
        have d1 := F.sub_list_set
        have d2 := F.sub_list_frozenset
        have d3 : (Value.type "list" == Value.type "dict") = false := by decide
        have hl1 : (s.heap.push { cls := .type "set", dict := none, data := .set #[] 0 (.fresh 0 0 (!byTx w)) }).IsList l its := ⟨_, gl', rfl, nl, rfl⟩
        unfold Builtin.«set.__init__» noKeywords Builtin.Frozenset.updateFrom
        generalize hPI : pyIter = PI
        wp_walk
        subst hPI
        refine wpAny_pyIter_list hl1 ?_
        refine wpAny_bind (wpAny_runValue ?_)
        have lt : l < s.heap.objs.size := Heap.lt_size gl
        have h3 : A.in1.in1.in1.handled = none := by simp [hh]
        have nI : l ≠ (s.heap.push { cls := .type "set", dict := none, data := .set #[] 0 (.fresh 0 0 (!byTx w)) }).objs.size := by
          rw [Heap.size_push]; exact Nat.ne_of_lt (Nat.lt_succ_of_lt lt)
        have nf : s.heap.objs.size ∉ [(s.heap.push { cls := .type "set", dict := none, data := .set #[] 0 (.fresh 0 0 (!byTx w)) }).objs.size, l] := by
          rw [Heap.size_push]; simp only [List.mem_cons, List.mem_singleton, List.not_mem_nil, or_false, not_or]
          exact ⟨Nat.ne_of_lt (Nat.lt_succ_self _), Nat.ne_of_gt lt⟩
        have hv : ∀ (i : Nat) (v : Value), its[i]? = some v → ∃ t, v = .int ((fun i => ns.getD i 0) i) t := fun i v z => PyProof.Rows.IntsAre.int_at hi i v (by rw [Array.getElem?_toList]; exact z)
        refine loopL ((Walks.list h3 _ l nI its).toS) s.heap.objs.size nf (fun i => ns.getD i 0) hv hb (its.size - 0) 0 _ (by omega) (Nat.zero_le _) ⟨⟨_, Heap.get?_push_size _ rfl, rfl, rfl⟩, (hl1.push _)⟩ ?S0 ?R0
        case S0 => exact SetL.new (Heap.get?_push_of_some _ g1)
        case R0 =>
          intro s' m S'
          obtain ⟨h', g', d', tk', os'⟩ := s'
          have eg : g' = s.gens := m.gens
          have ed : d' = s.drawn := m.drawn
          have eo : os' = s.os := m.os
          subst eg
          subst ed
          subst eo
          show wpAny _ _ _ _ _ _
          refine wpAny_pure ?_
          show wpAny _ _ (ret Value.none) _ _ _
          refine wpAny_pure ⟨rfl, h', tk', rfl, S', fun b o lb g => ?_⟩
          have b1 : b ≠ s.heap.objs.size := Nat.ne_of_lt lb
          have b2 : b ≠ (s.heap.push { cls := .type "set", dict := none, data := .set #[] 0 (.fresh 0 0 (!byTx w)) }).objs.size := by
            rw [Heap.size_push]; exact Nat.ne_of_lt (Nat.lt_succ_of_lt lb)
          exact m.heap b o (by simp only [List.mem_cons, List.mem_singleton, List.not_mem_nil, or_false, not_or]; exact ⟨b1, b2⟩) (Heap.get?_push_of_some _ (Heap.get?_push_of_some _ g))
      · cases r2 with
        | error e => exact hr2
        | ok fl2 =>
          cases fl2 with
          | ret r =>
            obtain ⟨rfl, h', tk, rfl, S', kp⟩ := hr2
            repeat (any_goals first | assumption | wp_step)
            exact k _ _ S' kp
          | _ => exact hr2.elim
    | _ => exact hr.elim
end
theorem yao : Slot "set_iterator" "__next__" "set_iterator.__next__" :=
  .of (owner := "set_iterator") (n := "__next__") (by rw [typeLookup_type, builtinLookup_eq_fast]; kernel_rfl) (by decide +kernel) (by decide +kernel) (by decide +kernel) (by first | exact .inl (by decide +kernel) | exact .inr (by decide +kernel)) (by rw [isSubtype_type]; kernel_rfl)
theorem ybl : entryFor table "set_iterator.__next__" = some Builtin.«set_iterator.__next__» := entryFor_of_tree (by kernel_rfl)
theorem ybu (v : Value) : argsOk "set_iterator.__next__" ⟨[v], []⟩ := by unfold argsOk; kernel_rfl
theorem yff : entryFor table "set.__iter__" = some Builtin.«frozenset.__iter__» :=
  entryFor_alias (id' := "frozenset.__iter__") (by kernel_rfl) (by first | rfl | decide +kernel | (unfold String.splitOn; simp +decide [String.splitOnAux])) (by decide +kernel) (by kernel_rfl)
theorem ygf {M : Model} {A : Around} {E : Value → Shared → Prop} {s : Shared} {n : Nat} {Q : Nat → Shared → Prop} (hn : n ≠ 0) (h : ∀ i d, i < n → Q i { s with drawn := d }) : wpAny M A (choose .order n) Q E s :=
  fun Γ p hΓ => ⟨hn, h _ _ (Nat.mod_lt _ (Nat.pos_of_ne_zero hn))⟩
theorem qee {α : Type} : ∀ (xs : List α) (i : Nat) (x : α), xs[i]? = some x → (x :: xs.eraseIdx i).Perm xs
  | [], i, x, h => by simp at h
  | a :: xs, 0, x, h => by
    have e : a = x := by simpa using h
    subst e
    exact List.Perm.refl _
  | a :: xs, i + 1, x, h => by
    have ih := qee xs i x (by simpa using h)
    show (x :: a :: xs.eraseIdx i).Perm (a :: xs)
    exact (List.Perm.swap a x _).trans (ih.cons a)
theorem yej {α : Type} {M : Model} {A : Around} {E : Value → Shared → Prop} : ∀ (n : Nat) (xs : List α) (s : Shared) (Q : List α → Shared → Prop), xs.length = n → (∀ ys d, ys.Perm xs → Q ys { s with drawn := d }) → wpAny M A (drawOrder n xs) Q E s
  | 0, xs, s, Q, hl, h => by
    unfold drawOrder
    have e : xs = [] := List.length_eq_zero_iff.mp hl
    subst e
    exact wpAny_pure (h [] s.drawn (List.Perm.refl _))
  | n + 1, [], s, Q, hl, h => by simp at hl
  | n + 1, x :: xs, s, Q, hl, h => by
    unfold drawOrder
    refine wpAny_bind (ygf (by simp) fun i d hi => ?_)
    have hg : (x :: xs)[i]? = some (x :: xs)[i] := List.getElem?_eq_getElem hi
    rw [hg]
    dsimp only
    refine wpAny_bind (yej n _ _ _ (by rw [List.length_eraseIdx]; simp only [if_pos hi]; omega) fun ys d' hp => ?_)
    exact wpAny_pure (h _ d' ((hp.cons _).trans (qee _ i _ hg)))
theorem qj2 {α : Type} (f : Nat → Nat) : ∀ (n k : Nat) (xs : List α) (out : Array α), xs.length = n → ∃ ys : List α, ys.Perm xs ∧ (pickOrder.go f n k xs out).toList = out.toList ++ ys
  | 0, k, xs, out, hl => ⟨[], by rw [List.length_eq_zero_iff.mp hl], by unfold pickOrder.go; simp⟩
  | n + 1, k, xs, out, hl => by
    have hlt : f k % xs.length < xs.length := Nat.mod_lt _ (by omega)
    have hg : xs[f k % xs.length]? = some xs[f k % xs.length] := List.getElem?_eq_getElem hlt
    unfold pickOrder.go
    rw [hg]
    dsimp only
    obtain ⟨ys, hp, e⟩ := qj2 f n (k + 1) (xs.eraseIdx (f k % xs.length)) (out.push xs[f k % xs.length]) (by rw [List.length_eraseIdx, if_pos hlt]; omega)
    refine ⟨xs[f k % xs.length] :: ys, (hp.cons _).trans (qee _ _ _ hg), ?_⟩
    rw [e]
    simp
theorem yfr {α : Type} (f : Nat → Nat) (xs : Array α) : (pickOrder f xs).toList.Perm xs.toList := by
  obtain ⟨ys, hp, e⟩ := qj2 f xs.size 0 xs.toList #[] (by simp)
  unfold pickOrder
  rw [e]
  simpa using hp
section
variable {P : Program} {w : World} {A : Around} {E : Value → Shared → Prop} {s : Shared} {a : Addr} {o : Obj} {es : Array (Int × Value)} {ep : Nat} {t : SetTable}
theorem yi1 {Q : Option (Value × Nat) → Shared → Prop} {slot i : Nat} (hb : byTx w = true) (g : s.heap.get? a = some o) (gd : o.data = .set es ep t) (hf : t.fits es.size = true)
    (h : Q (((pickOrder (w.params.setOrder a ep) es).toList.map (·.2))[i]?.map fun v => (v, slot)) s) : wpAny (model P w) A (setNext a slot i ep) Q E s := by
  unfold setNext
  refine wpAny_bind (wpAny_setState_of g gd hf ?_)
  dsimp only
  unfold setsByText
  refine wpAny_bind (wpAny_bind (wpAny_askSetting (wpAny_pure ?_)))
  have hb' : w.params.followText "set-order" = true := hb
  show wpAny _ _ (if w.params.followText "set-order" = true then _ else _) _ _ _
  rw [if_pos hb', if_neg (by simp)]
  unfold setWalk
  refine wpAny_bind (wpAny_bind (wpAny_setState_of g gd hf ?_))
  dsimp only
  unfold setsByText
  refine wpAny_bind (wpAny_bind (wpAny_askSetting (wpAny_pure ?_)))
  show wpAny _ _ (if w.params.followText "set-order" = true then _ else _) _ _ _
  rw [if_pos hb']
  refine wpAny_bind (wpAny_askSetting (wpAny_pure ?_))
  refine wpAny_pure ?_
  rw [List.getElem?_map, Array.getElem?_toList, Option.map_map] at h
  exact h
theorem next_led {Q : Option (Value × Nat) → Shared → Prop} {slot i : Nat} (hb : byTx w = false) (g : s.heap.get? a = some o) (gd : o.data = .set es ep t) (hf : t.fits es.size = true) (hl : t.led = true) (hp : t.plain = true ∨ es.size ≤ 1)
    (h : Q (match es[SetTable.below t.place slot]?, t.place[SetTable.below t.place slot]? with | some (_, x), some j => some (x, j + 1) | _, _ => none) s) : wpAny (model P w) A (setNext a slot i ep) Q E s := by
  unfold setNext
  refine wpAny_bind (wpAny_setState_of g gd hf ?_)
  dsimp only
  unfold setsByText
  refine wpAny_bind (wpAny_bind (wpAny_askSetting (wpAny_pure ?_)))
  have hb' : w.params.followText "set-order" = false := hb
  show wpAny _ _ (if w.params.followText "set-order" = true then _ else _) _ _ _
  rw [if_neg (by rw [hb']; exact Bool.false_ne_true)]
  refine wpAny_ite_split (fun hd => ?_) fun _ => ?_
  · exfalso
    have hd' : (!t.plain && decide (es.size > 1)) = true := hd
    rw [Bool.and_eq_true, decide_eq_true_eq] at hd'
    rcases hp with hp | hp
    · rw [hp] at hd'; exact absurd hd'.1 (by decide)
    · omega
  · refine wpAny_bind ?_
    refine wpAny_ite_split (fun hd => ?_) fun _ => ?_
    · exfalso
      have hd' : (!t.led && !es.isEmpty) = true := hd
      rw [hl] at hd'
      exact absurd hd' (by simp)
    · exact wpAny_pure (wpAny_pure h)
end
theorem qc8 : Slot "set_iterator" "__iter__" "set_iterator.__iter__" :=
  .of (owner := "set_iterator") (n := "__iter__") (by rw [typeLookup_type, builtinLookup_eq_fast]; kernel_rfl) (by decide +kernel) (by decide +kernel) (by decide +kernel) (by first | exact .inl (by decide +kernel) | exact .inr (by decide +kernel)) (by rw [isSubtype_type]; kernel_rfl)
theorem yen : entryFor table "set_iterator.__iter__" = some Builtin.«dict_keyiterator.__iter__» :=
  entryFor_alias (id' := "dict_keyiterator.__iter__") (by kernel_rfl) (by first | rfl | decide +kernel | (unfold String.splitOn; simp +decide [String.splitOnAux])) (by decide +kernel) (by kernel_rfl)
theorem qfj (v : Value) : argsOk "set_iterator.__iter__" ⟨[v], []⟩ := by unfold argsOk; kernel_rfl
def SI (h : Heap) (I : Addr) (f : Value) (i : Nat) (a : Addr) (n ep : Nat) : Prop := h.get? I = some { cls := .type "set_iterator", dict := none, data := .fields #[f, rawInt i, .ref a, rawInt n, rawInt ep], slots := #[] }
section
variable {P : Program} {w : World} {A : Around} {E : Value → Shared → Prop} {s : Shared}
theorem ygy {I : Addr} {Q : Value → Shared → Prop} (hT : s.TypeIs (.ref I) "set_iterator") (h : Q (.ref I) s) : wpAny (model P w) A (pyIter (.ref I)) Q E s := by
  refine wpAny_pyIter_slot hT qc8 (wpAny_call_entry qc8 hT yen ?_ (qfj _))
  show wpAny _ _ (ret (.ref I)) _ _ s
  exact wpAny_pure ⟨_, rfl, "set_iterator", _, hT, yao.lookup, h⟩
theorem yf1 {Q : Fin → Shared → Prop} (hh : A.handled = none) (h : ∀ h' e, (∀ b o, s.heap.get? b = some o → h'.get? b = some o) → (∃ o, h'.get? e = some o ∧ o.cls = .type "StopIteration") → E (.ref e) { s with heap := h' }) :
    wpAny (model P w) A (newExc (.type "StopIteration") [] >>= fun e => (raiseNew e : Sem Fin)) Q E s := by
  refine wpAny_bind ?_
  simp only [newExc, newTuple]
  refine wpAny_bind (wpAny_newObj_type ?_ (by size_fits))
  refine wpAny_bind (m := firstArgMember _ _) ?_
  refine wpAny_of_eq (a := Value.none) (by first | rfl | (simp only [firstArgMember]; rfl)) ?_
  refine wpAny_newObj_type ?_ (by size_fits)
  simp only [raiseNew]
  refine wpAny_bind (wpAny_handled ?_)
  rw [hh]
  refine wpAny_bind (wpAny_pure (wpAny_throw ?_))
  exact h _ _ (fun b o g => Heap.get?_push_of_some _ (Heap.get?_push_of_some _ g)) ⟨_, Heap.get?_push_size _ rfl, rfl⟩
theorem yet {h' : Heap} {I : Addr} (k : ∀ b o, b ≠ I → s.heap.get? b = some o → h'.get? b = some o) : Moved [I] (fun x y => y = x) s { s with heap := h' } :=
  ⟨fun b o hb g => k b o (fun z => hb (by rw [z]; exact List.mem_singleton.mpr rfl)) g, rfl, rfl, rfl, Nat.le_refl _⟩
theorem qjc (hh : A.handled = none) {I a : Addr} {o : Obj} {es : Array (Int × Value)} {ep : Nat} {t : SetTable} (nI : a ≠ I) (gd : o.data = .set es ep t) (hf : t.fits es.size = true) (F : Nat → Nat) (vs : List Value) (hvs : vs.length = es.size)
    (hn : ∀ (B : Around) (D : Value → Shared → Prop) (s : Shared) (i : Nat) (Q : Option (Value × Nat) → Shared → Prop), s.heap.get? a = some o → i ≤ es.size → Q (vs[i]?.map fun v => (v, F (i + 1))) s → wpAny (model P w) B (setNext a (F i) i ep) Q D s) :
    WalksS P w A I [I, a] [I] (fun x y => y = x) es.size (fun i v => vs[i]? = some v) (fun i s => SI s.heap I (rawInt (F i)) i a es.size ep ∧ s.heap.get? a = some o) where
  sub := fun b hb => by rw [List.mem_singleton] at hb; rw [hb]; exact List.mem_cons_self ..
  grefl := fun _ => rfl
  gtrans := fun _ _ _ h1 h2 => h2.trans h1
  frame := fun i s h' tk st _ k => ⟨k I (by simp) _ st.1, k a (by simp) _ st.2⟩
  item := fun i s Q E hi st hQ => by
    obtain ⟨gI, ga⟩ := st
    have hT : s.TypeIs (.ref I) "set_iterator" := ⟨_, gI, rfl⟩
    have hv : vs[i]? = some vs[i] := List.getElem?_eq_getElem (by omega)
    unfold pyNext
    refine wpAny_bind (wpAny_attempt (wpAny_callSpecial?_slot (name := Str.ofString "__next__") hT yao (wpAny_call_entry yao hT ybl ?_ (ybu _))))
    show wpAny _ _ (fieldsOf (.ref I) >>= _) _ _ s
    refine wpAny_bind (wpAny_fieldsOf gI rfl ?_)
    show wpAny _ _ (setEntries a >>= _) _ _ s
    refine wpAny_bind (wpAny_setEntries_of ga gd hf ?_)
    rw [if_neg (by simp)]
    show wpAny _ _ (setNext a (F i) i ep >>= _) _ _ s
    refine wpAny_bind (hn _ _ s i _ ga (by omega) ?_)
    rw [hv]
    show wpAny _ _ (setField (.ref I) 0 (rawInt (F (i + 1))) >>= _) _ _ s
    refine wpAny_bind (wpAny_setField_rec gI (by simp) fun m1 g1 e1 => ?_)
    refine wpAny_bind (wpAny_setField_rec g1 (by simp) fun m2 g2 e2 => ?_)
    refine wpAny_pure ⟨_, rfl, wpAny_pure (hQ _ _ hv ⟨?_, ?_⟩ (yet fun b ob hb g => (e2.extBut _ _ hb (e1.extBut _ _ hb g))))⟩
    · exact g2
    · exact e2.extBut _ _ nI (e1.extBut _ _ nI ga)
  done := fun s Q E st hQ => by
    obtain ⟨gI, ga⟩ := st
    have hT : s.TypeIs (.ref I) "set_iterator" := ⟨_, gI, rfl⟩
    have hv : vs[es.size]? = none := List.getElem?_eq_none (by omega)
    unfold pyNext
    refine wpAny_bind (wpAny_attempt (wpAny_callSpecial?_slot (name := Str.ofString "__next__") hT yao (wpAny_call_entry yao hT ybl ?_ (ybu _))))
    show wpAny _ _ (fieldsOf (.ref I) >>= _) _ _ s
    refine wpAny_bind (wpAny_fieldsOf gI rfl ?_)
    show wpAny _ _ (setEntries a >>= _) _ _ s
    refine wpAny_bind (wpAny_setEntries_of ga gd hf ?_)
    rw [if_neg (by simp)]
    show wpAny _ _ (setNext a (F es.size) es.size ep >>= _) _ _ s
    refine wpAny_bind (hn _ _ s es.size _ ga (Nat.le_refl _) ?_)
    rw [hv]
    show wpAny _ _ (setField (.ref I) 2 Value.none >>= _) _ _ s
    refine wpAny_bind (wpAny_setField_rec gI (by simp) fun m1 g1 e1 => ?_)
    refine yf1 (by first | exact hh | simpa using hh) fun m2 e kp he => ?_
    obtain ⟨ob, go, gc⟩ := he
    refine wpAny_bind (wpAny_isInstance (T := "StopIteration") (b := true) ⟨ob, go, gc⟩ isSubtype_stop ?_)
    exact wpAny_pure (hQ _ (yet fun b ob hb g => kp b ob (e1.extBut _ _ hb g)))
  self := fun i s Q E st hQ => by
    obtain ⟨gI, ga⟩ := st
    exact ygy ⟨_, gI, rfl⟩ hQ
theorem qjx (hh : A.handled = none) {I a T : Addr} {o : Obj} {es : Array (Int × Value)} {ep : Nat} {t : SetTable} (nI : a ≠ I) (nT : T ≠ I) (gd : o.data = .set es ep t) (hf : t.fits es.size = true) (ps : List Nat) (hps : ps.length = es.size) (hlt : ∀ p ∈ ps, p < es.size) (vs : List Value) (hvs : vs = ps.map fun p => (es.getD p (0, .none)).2) :
    WalksS P w A I [I, a, T] [I] (fun x y => y = x) es.size (fun i v => vs[i]? = some v) (fun i s => SI s.heap I (.ref T) i a es.size ep ∧ s.heap.get? a = some o ∧ s.heap.get? T = some { cls := .type "tuple", data := .seq (ps.map fun (p : Nat) => rawInt p).toArray }) where
  sub := fun b hb => by rw [List.mem_singleton] at hb; rw [hb]; exact List.mem_cons_self ..
  grefl := fun _ => rfl
  gtrans := fun _ _ _ h1 h2 => h2.trans h1
  frame := fun i s h' tk st _ k => ⟨k I (by simp) _ st.1, k a (by simp) _ st.2.1, k T (by simp) _ st.2.2⟩
  item := fun i s Q E hi st hQ => by
    obtain ⟨gI, ga, gT⟩ := st
    have hT : s.TypeIs (.ref I) "set_iterator" := ⟨_, gI, rfl⟩
    have hp : ps[i]? = some ps[i] := List.getElem?_eq_getElem (by omega)
    have hpl : ps[i] < es.size := hlt _ (List.getElem_mem _)
    have he : es[ps[i]]? = some es[ps[i]] := Array.getElem?_eq_getElem hpl
    have hv : vs[i]? = some (es[ps[i]]).2 := by
      rw [hvs, List.getElem?_map, hp, Option.map_some, Array.getD_eq_getD_getElem?, he]
      rfl
    have hpi : (ps.map fun (p : Nat) => rawInt p).toArray[i]? = some (rawInt ps[i]) := by
      rw [List.getElem?_toArray, List.getElem?_map, hp]; rfl
    unfold pyNext
    refine wpAny_bind (wpAny_attempt (wpAny_callSpecial?_slot (name := Str.ofString "__next__") hT yao (wpAny_call_entry yao hT ybl ?_ (ybu _))))
    show wpAny _ _ (fieldsOf (.ref I) >>= _) _ _ s
    refine wpAny_bind (wpAny_fieldsOf gI rfl ?_)
    show wpAny _ _ (setEntries a >>= _) _ _ s
    refine wpAny_bind (wpAny_setEntries_of ga gd hf ?_)
    rw [if_neg (by simp)]
    show wpAny _ _ (seqItems? (.ref T) >>= _) _ _ s
    refine wpAny_bind (wpAny_seqItems gT rfl ?_)
    dsimp only
    rw [show ((i : Int)).toNat = i from rfl, hpi]
    show wpAny _ _ (setNextDrawn a ps[i] ep >>= _) _ _ s
    unfold setNextDrawn
    refine wpAny_bind (wpAny_bind (wpAny_setState_of ga gd hf ?_))
    dsimp only
    rw [if_neg (by simp), he]
    refine wpAny_pure ?_
    show wpAny _ _ (setField (.ref I) 1 (rawInt (i + 1)) >>= _) _ _ s
    refine wpAny_bind (wpAny_setField_rec gI (by simp) fun m1 g1 e1 => ?_)
    refine wpAny_pure ⟨_, rfl, wpAny_pure (hQ _ _ hv ⟨?_, ?_, ?_⟩ (yet fun b ob hb g => e1.extBut _ _ hb g))⟩
    · exact g1
    · exact e1.extBut _ _ nI ga
    · exact e1.extBut _ _ nT gT
  done := fun s Q E st hQ => by
    obtain ⟨gI, ga, gT⟩ := st
    have hT : s.TypeIs (.ref I) "set_iterator" := ⟨_, gI, rfl⟩
    have hpi : (ps.map fun (p : Nat) => rawInt p).toArray[es.size]? = none := by
      rw [List.getElem?_toArray]; exact List.getElem?_eq_none (by rw [List.length_map]; omega)
    unfold pyNext
    refine wpAny_bind (wpAny_attempt (wpAny_callSpecial?_slot (name := Str.ofString "__next__") hT yao (wpAny_call_entry yao hT ybl ?_ (ybu _))))
    show wpAny _ _ (fieldsOf (.ref I) >>= _) _ _ s
    refine wpAny_bind (wpAny_fieldsOf gI rfl ?_)
    show wpAny _ _ (setEntries a >>= _) _ _ s
    refine wpAny_bind (wpAny_setEntries_of ga gd hf ?_)
    rw [if_neg (by simp)]
    show wpAny _ _ (seqItems? (.ref T) >>= _) _ _ s
    refine wpAny_bind (wpAny_seqItems gT rfl ?_)
    dsimp only
    rw [show ((es.size : Int)).toNat = es.size from rfl, hpi]
    show wpAny _ _ (setField (.ref I) 0 (rawInt 0) >>= _) _ _ s
    refine wpAny_bind (wpAny_setField_rec gI (by simp) fun m0 g0 e0 => ?_)
    refine wpAny_bind (wpAny_setField_rec g0 (by simp) fun m1 g1 e1 => ?_)
    refine yf1 (by first | exact hh | simpa using hh) fun m2 e kp he => ?_
    obtain ⟨ob, go, gc⟩ := he
    refine wpAny_bind (wpAny_isInstance (T := "StopIteration") (b := true) ⟨ob, go, gc⟩ isSubtype_stop ?_)
    exact wpAny_pure (hQ _ (yet fun b ob hb g => kp b ob (e1.extBut _ _ hb (e0.extBut _ _ hb g))))
  self := fun i s Q E st hQ => by
    obtain ⟨gI, ga, gT⟩ := st
    exact ygy ⟨_, gI, rfl⟩ hQ
end
theorem ykl {t : SetTable} {n : Nat} (h : t.fits n = true) : t.place.size = n := by
  unfold SetTable.fits at h
  rw [Bool.and_eq_true, beq_iff_eq] at h
  exact h.1
def yh9 (t : SetTable) (i : Nat) : Nat := if i = 0 then 0 else t.place.getD (i - 1) 0 + 1
theorem ygl {t : SetTable} (hs : Srt t.place) {i : Nat} (hi : i ≤ t.place.size) : SetTable.below t.place (yh9 t i) = i := by
  by_cases h0 : i = 0
  · subst h0
    exact qh0 hs (Nat.zero_le _) (fun k x hk => absurd hk (Nat.not_lt_zero _)) fun k x _ _ => Nat.zero_le _
  · have hlt : i - 1 < t.place.size := by omega
    have hg : t.place[i - 1]? = some (t.place.getD (i - 1) 0) := by
      rw [Array.getD_eq_getD_getElem?, Array.getElem?_eq_getElem hlt]; rfl
    have e : yh9 t i = t.place.getD (i - 1) 0 + 1 := by unfold yh9; rw [if_neg h0]
    rw [e]
    refine qh0 hs hi (fun k x hk hx => ?_) fun k x hk hx => ?_
    · by_cases hk2 : k = i - 1
      · subst hk2; rw [hg] at hx; cases hx; omega
      · have := hs k (i - 1) x _ (by omega) hx hg; omega
    · have := hs (i - 1) k _ x (by omega) hg hx; omega
section
variable {P : Program} {w : World} {A : Around} {E : Value → Shared → Prop} {s : Shared} {a : Addr} {ks : List Int}
def WalkOf (P : Program) (w : World) (s : Shared) (a : Addr) (ks : List Int) (I : Addr) (h' : Heap) (d : Drawn) : Prop :=
  ∃ (n : Nat) (fp : List Addr) (vs : List Value) (ns : List Int) (St : Nat → Shared → Prop), n = ks.length ∧ (∀ B : Around, B.handled = none → WalksS P w B I fp [I] (fun x y => y = x) n (fun i v => vs[i]? = some v) St) ∧ St 0 { s with heap := h', drawn := d } ∧
    s.heap.objs.size ≤ I ∧ (∀ b ∈ fp, b = a ∨ s.heap.objs.size ≤ b) ∧ (∀ b o, s.heap.get? b = some o → h'.get? b = some o) ∧ IntsAre vs ns ∧ ns.Perm ks
theorem iterL {Q : Value → Shared → Prop} (hS : SetL P w s.heap a ks) (k : ∀ I h' d, WalkOf P w s a ks I h' d → Q (.ref I) { s with heap := h', drawn := d }) : wpAny (model P w) A (pyIter (.ref a)) Q E s := by
  obtain ⟨o, es, ep, t, g, gx, gd, el, ⟨ns, hi, hp⟩, hb, hf, ht, hl⟩ := hS
  have hT : s.TypeIs (.ref a) "set" := ⟨o, g, gx.1⟩
  have hlen : es.size = ks.length := by
    have h1 := IntsAre.length hi
    rw [List.length_map, Array.length_toList] at h1
    rw [h1, hp.length_eq]
  have hpl : t.place.size = es.size := ykl hf
  have ha : a < s.heap.objs.size := Heap.lt_size g
  refine wpAny_pyIter_slot hT F.slot_set_iter (wpAny_call_entry F.slot_set_iter hT yff ?_ (F.args_set_iter_1 _))
  show wpAny _ _ (Builtin.Frozenset.sizeOf a >>= _) _ _ s
  refine wpAny_bind ?_
  unfold Builtin.Frozenset.sizeOf
  refine wpAny_bind (wpAny_setEntries_of g gd hf ?_)
  refine wpAny_pure ?_
  refine wpAny_bind ?_
  refine wpAny_bind ?_
  refine wpAny_setState_of g gd hf ?_
  dsimp only
  unfold setsByText
  refine wpAny_bind (wpAny_bind (wpAny_askSetting (wpAny_pure ?_)))
  refine wpAny_pure ?_
  dsimp only
  refine wpAny_ite_split (fun hd => ?_) fun hd => ?_
  · refine wpAny_bind (yej es.size (List.range es.size) s _ (by simp) fun ps d pp => ?_)
    have hpsl : ps.length = es.size := by rw [pp.length_eq, List.length_range]
    refine wpAny_bind (wpAny_newTuple ?_ (by rw [List.length_map, hpsl]; exact fits_of_scanBound hb))
    have gT : (s.heap.push { cls := .type "tuple", data := .seq (ps.map fun (p : Nat) => rawInt p).toArray }).get? s.heap.objs.size = some { cls := .type "tuple", data := .seq (ps.map fun (p : Nat) => rawInt p).toArray } := Heap.get?_push_size _ rfl
    have ga : (s.heap.push { cls := .type "tuple", data := .seq (ps.map fun (p : Nat) => rawInt p).toArray }).get? a = some o := Heap.get?_push_of_some _ g
    refine wpAny_bind (wpAny_setEpoch_of (s := { s with heap := s.heap.push { cls := .type "tuple", data := .seq (ps.map fun (p : Nat) => rawInt p).toArray }, drawn := d }) ga gd hf ?_)
    refine wpAny_bind (wpAny_newObj_type ?_ (by size_fits))
    have z1 : (s.heap.push { cls := .type "tuple", data := .seq (ps.map fun (p : Nat) => rawInt p).toArray }).objs.size = s.heap.objs.size + 1 := Heap.size_push ..
    have hvp : (ps.map fun p => (es.getD p (0, .none)).2).Perm (es.toList.map (·.2)) := by
      refine (pp.map _).trans (List.Perm.of_eq ?_)
      refine List.ext_getElem (by simp) fun i h1 h2 => ?_
      have hi : i < es.size := by simpa using h2
      rw [List.getElem_map, List.getElem_map, List.getElem_range, Array.getElem_toList]
      show (es.getD i (0, .none)).2 = (es[i]).2
      rw [Array.getD_eq_getD_getElem?, Array.getElem?_eq_getElem hi]
      rfl
    obtain ⟨n2, i2, p2⟩ := ydz hvp hi
    have nI : a ≠ (s.heap.push { cls := .type "tuple", data := .seq (ps.map fun (p : Nat) => rawInt p).toArray }).objs.size := by rw [z1]; exact neN (.inl (Nat.lt_succ_of_lt ha))
    have nT : s.heap.objs.size ≠ (s.heap.push { cls := .type "tuple", data := .seq (ps.map fun (p : Nat) => rawInt p).toArray }).objs.size := by rw [z1]; exact neN (.inl (Nat.lt_succ_self _))
    refine wpAny_pure ⟨_, rfl, "set_iterator", _, ⟨_, Heap.get?_push_size _ rfl, rfl⟩, yao.lookup, k _ _ d ?_⟩
    refine ⟨es.size, _, _, n2, _, hlen, fun B hB => qjx hB nI nT gd hf ps hpsl (fun p hp => List.mem_range.mp (pp.mem_iff.mp hp)) _ rfl, ⟨Heap.get?_push_size _ rfl, Heap.get?_push_of_some _ ga, Heap.get?_push_of_some _ gT⟩, by rw [z1]; exact Nat.le_succ _, fun b hb => ?_, fun b ob gb => Heap.get?_push_of_some _ (Heap.get?_push_of_some _ gb), i2, p2.trans hp⟩
    have hb' : b = (s.heap.push { cls := .type "tuple", data := .seq (ps.map fun (p : Nat) => rawInt p).toArray }).objs.size ∨ b = a ∨ b = s.heap.objs.size := by simpa using hb
    rcases hb' with rfl | rfl | rfl
    · exact .inr (by rw [z1]; exact Nat.le_succ _)
    · exact .inl rfl
    · exact .inr (Nat.le_refl _)
  · refine wpAny_bind (wpAny_pure ?_)
    refine wpAny_bind (wpAny_setEpoch_of g gd hf ?_)
    refine wpAny_bind (wpAny_newObj_type ?_ (by size_fits))
    have nI : a ≠ s.heap.objs.size := neN (.inl ha)
    have es0 : s = { s with drawn := s.drawn } := by cases s; rfl
    have fpk : ∀ b ∈ [s.heap.objs.size, a], b = a ∨ s.heap.objs.size ≤ b := fun b hb => by
      have hb' : b = s.heap.objs.size ∨ b = a := by simpa using hb
      rcases hb' with rfl | rfl
      · exact .inr (Nat.le_refl _)
      · exact .inl rfl
    refine wpAny_pure ⟨_, rfl, "set_iterator", _, ⟨_, Heap.get?_push_size _ rfl, rfl⟩, yao.lookup, ?_⟩
    have key : WalkOf P w s a ks s.heap.objs.size (s.heap.push { cls := .type "set_iterator", data := .fields #[rawInt 0, rawInt 0, .ref a, rawInt es.size, rawInt ep] }) s.drawn := by
      by_cases hbt : byTx w = true
      · have hvp : ((pickOrder (w.params.setOrder a ep) es).toList.map (·.2)).Perm (es.toList.map (·.2)) := (yfr _ es).map _
        obtain ⟨n2, i2, p2⟩ := ydz hvp hi
        refine ⟨es.size, _, (pickOrder (w.params.setOrder a ep) es).toList.map (·.2), n2, _, hlen, fun B hB => qjc hB nI gd hf (fun _ => 0) _ (by rw [hvp.length_eq, List.length_map, Array.length_toList]) fun C D s i Q g1 hi1 q => yi1 hbt g1 gd hf q, ⟨Heap.get?_push_size _ rfl, Heap.get?_push_of_some _ g⟩, Nat.le_refl _, fpk, fun b ob gb => Heap.get?_push_of_some _ gb, i2, p2.trans hp⟩
      · have hbf : byTx w = false := eq_false_of_ne_true hbt
        have hled : t.led = true := hl.resolve_left hbt
        have hpz : t.plain = true ∨ es.size ≤ 1 := by
          have hd' : ¬ ((!byTx w && (!t.plain && decide (es.size > 1))) = true) := hd
          rw [hbf] at hd'
          cases hq : t.plain with
          | true => exact .inl rfl
          | false =>
            right
            rw [hq] at hd'
            simpa using hd'
        refine ⟨es.size, _, es.toList.map (·.2), ns, _, hlen, fun B hB => qjc hB nI gd hf (yh9 t) _ (by rw [List.length_map, Array.length_toList]) fun C D s i Q g1 hi1 q => next_led hbf g1 gd hf hled hpz ?_, ⟨Heap.get?_push_size _ rfl, Heap.get?_push_of_some _ g⟩, Nat.le_refl _, fpk, fun b ob gb => Heap.get?_push_of_some _ gb, hi, hp⟩
        rw [ygl ht.1 (by omega)]
        by_cases hlt : i < es.size
        · have e1 : es[i]? = some es[i] := Array.getElem?_eq_getElem hlt
          have e2 : t.place[i]? = some (t.place.getD i 0) := by
            rw [Array.getD_eq_getD_getElem?, Array.getElem?_eq_getElem (by omega)]; rfl
          rw [List.getElem?_map, Array.getElem?_toList, e1] at q
          rw [e1, e2]
          exact q
        · have e1 : es[i]? = none := Array.getElem?_eq_none (by omega)
          rw [List.getElem?_map, Array.getElem?_toList, e1] at q
          rw [e1]
          exact q
    have z := k _ _ _ key
    exact z
end
theorem len_set : typeLookup (.type "set") "__len__" = pure (some (.builtin "set.__len__")) := by rw [typeLookup_type, builtinLookup_eq_fast]; kernel_rfl
section
variable {P : Program} {w : World} {A : Around} {E : Value → Shared → Prop} {s : Shared} {a : Addr} {ks : List Int}
theorem collectL {Q : List Value → Shared → Prop} (hh : A.handled = none) (hS : SetL P w s.heap a ks) (hz : ks.length ≤ 4000)
    (k : ∀ vs ns h' d tk, IntsAre vs ns → ns.Perm ks → s.heap.objs.size < h'.objs.size → (∀ b o, s.heap.get? b = some o → h'.get? b = some o) → Q vs { s with heap := h', drawn := d, toks := tk }) : wpAny (model P w) A (collect (.ref a)) Q E s := by
  have hT : s.TypeIs (.ref a) "set" := by
    obtain ⟨o, es, ep, t, g, gx, _⟩ := hS
    exact ⟨o, g, gx.1⟩
  have ha : a < s.heap.objs.size := by
    obtain ⟨o, es, ep, t, g, gx, _⟩ := hS
    exact Heap.lt_size g
  unfold collect
  refine wpAny_bind (wpAny_runValue (codeAny_builtin F.entry_proto_collect ?_))
  rw [Around.under_plainId F.plain_proto_collect _]
  show wpAny _ A.in1 (newList [] >>= fun l => again (.builtin "list.__iadd__" ⟨[l, .ref a], []⟩)) _ _ s
  refine wpAny_bind (wpAny_newObj_type ?_)
  refine wpAny_pure ⟨plainId_quiet F.plain_list_iadd _, ?_⟩
  refine codeAny_builtin F.entry_list_iadd ?_
  rw [Around.under_plainId F.plain_list_iadd _]
  show wpAny _ A.in1 (Builtin.List.listExtendWith (.ref s.heap.objs.size) (.ref a) (.ref s.heap.objs.size)) _ _ _
  generalize hH : s.heap.push { cls := .type "list", data := .seq ([] : List Value).toArray } = H1
  have g0 : H1.get? s.heap.objs.size = some { cls := .type "list", data := .seq ([] : List Value).toArray } := by rw [← hH]; exact Heap.get?_push_size _ rfl
  have z1 : H1.objs.size = s.heap.objs.size + 1 := by rw [← hH]; exact Heap.size_push ..
  have kp1 : ∀ b o, s.heap.get? b = some o → H1.get? b = some o := fun b o g => by rw [← hH]; exact Heap.get?_push_of_some _ g
  have hS1 : SetL P w H1 a ks := hS.at fun o g => kp1 a o g
  have hT1 : Shared.TypeIs { s with heap := H1 } (.ref a) "set" := by
    obtain ⟨o, es, ep, t, g, gx, _⟩ := hS1
    exact ⟨o, g, gx.1⟩
  unfold Builtin.List.listExtendWith
  refine wpAny_bind (wpAny_typeOf hT1 ?_)
  have n1 : Builtin.List.listSameRef (.ref s.heap.objs.size) (.ref a) = false := by
    have : s.heap.objs.size ≠ a := neN (.inr ha)
    simp [Builtin.List.listSameRef, this]
  rw [if_neg (by rw [n1]; decide)]
  refine wpAny_bind (iterL (s := { s with heap := H1 }) hS1 fun I h' d W => ?_)
  refine wpAny_bind (wpAny_holding ?_)
  have hT2 : Shared.TypeIs { s with heap := h', drawn := d } (.ref a) "set" := by
    obtain ⟨n, fp, vs, ns, St, e, W1, st, lI, fpk, kp, i2, p2⟩ := W
    obtain ⟨o, g, c⟩ := hT1
    exact ⟨o, kp _ _ g, c⟩
  unfold Builtin.List.listLengthHint
  refine wpAny_bind (wpAny_specialOf hT2 len_set ?_)
  wp_delta
  refine wpAny_bind (wpAny_isInstance (T := "set") (b := true) hT2 (by rw [isSubtype_type]; kernel_rfl) ?_)
  show wpAny _ A.in1 (typeOf (Value.ref a) >>= _) _ _ _
  refine wpAny_bind (wpAny_typeOf hT2 ?_)
  refine wpAny_pure ?_
  rw [if_pos (by decide)]
  refine wpAny_bind (wpAny_rule ?_)
  obtain ⟨n, fp, vs, ns, St, en, W1, st, lI, fpk, kp, i2, p2⟩ := W
  have lI' : s.heap.objs.size + 1 ≤ I := by rw [← z1]; exact lI
  have hd : s.heap.objs.size ∉ fp := fun hm => by
    rcases fpk _ hm with z | z
    · exact absurd ha (by rw [← z]; exact Nat.lt_irrefl _)
    · have z' : s.heap.objs.size + 1 ≤ s.heap.objs.size := by rw [← z1]; exact z
      exact absurd z' (Nat.not_succ_le_self _)
  have gS : h'.get? s.heap.objs.size = some { cls := .type "list", data := .seq ([] : List Value).toArray } := kp _ _ g0
  refine wpAny_bind ?_
  show wpAny _ _ (updateSeq s.heap.objs.size (·.push .none) >>= fun _ => updateSeq s.heap.objs.size (·.pop)) _ _ _
  refine wpAny_bind (wpAny_updateSeq gS rfl ?_ (by simp) (by simp))
  have gS1 := Heap.get?_update_self (Obj.mapSeq (·.push Value.none)) gS rfl
  refine wpAny_updateSeq gS1 rfl ?_ (by simp; decide) (by simp)
  have gS2 := Heap.get?_update_self (Obj.mapSeq (·.pop)) gS1 rfl
  have oth : ∀ b o, b ≠ s.heap.objs.size → h'.get? b = some o → ((h'.update s.heap.objs.size (Obj.mapSeq (·.push Value.none))).update s.heap.objs.size (Obj.mapSeq (·.pop))).get? b = some o := fun b o hb g => by
    rw [Heap.get?_update_other _ _ (Ne.symm hb), Heap.get?_update_other _ _ (Ne.symm hb)]
    exact g
  have st2 := (W1 A.in1 (by simpa using hh)).frame 0 _ ((h'.update s.heap.objs.size (Obj.mapSeq (·.push Value.none))).update s.heap.objs.size (Obj.mapSeq (·.pop))) s.toks st (Nat.le_refl _) fun b hb o g => oth b o (fun z => hd (z ▸ hb)) g
  have hvl : n ≤ sizeLine := by rw [en]; exact qgs (by omega)
  refine wpAny_pure ⟨plainId_quiet F.plain_extend_loop _, ?_⟩
  refine codeAny_extend_loopS (W1 A.in1 (by simpa using hh)) hvl _ hd _ n 0 _ _ _ rfl (Nat.zero_le _) st2 gS2 ⟨rfl, fun j v z => by simp at z⟩ fun s2 acc c m g2 it => ?_
  show wpAny _ A (load s.heap.objs.size >>= _) _ _ s2
  refine wpAny_bind (wpAny_load g2 ?_)
  have ev : acc.toList = vs := by
    have hl : acc.size = n := it.1
    have hvn : vs.length = n := by
      have h1 := IntsAre.length i2
      rw [h1, p2.length_eq, en]
    refine List.ext_getElem? fun j => ?_
    cases hj : acc.toList[j]? with
    | none =>
      have := List.getElem?_eq_none_iff.mp hj
      rw [Array.length_toList] at this
      rw [List.getElem?_eq_none (by omega)]
    | some v => exact (it.2 j v (by rw [← Array.getElem?_toList]; exact hj)).symm
  obtain ⟨h2, g', d2, tk, os⟩ := s2
  have eg : g' = s.gens := m.gens
  have ed : d2 = d := m.drawn
  have eo : os = s.os := m.os
  subst eg
  subst ed
  subst eo
  refine wpAny_pure ?_
  show Q acc.toList _
  rw [ev]
  refine k vs ns h2 d2 tk i2 p2 (Heap.lt_size g2) fun b o g => ?_
  have hb : b < s.heap.objs.size := Heap.lt_size g
  refine m.heap b o (fun z => ?_) (oth b o (neN (.inl hb)) (kp b o (kp1 b o g)))
  have z' : b = s.heap.objs.size ∨ b = I := by simpa using z
  rcases z' with z | z
  · exact absurd hb (by rw [z]; exact Nat.lt_irrefl _)
  · exact absurd (Nat.lt_of_lt_of_le hb (Nat.le_of_succ_le lI')) (by rw [z]; exact Nat.lt_irrefl _)
end
theorem qf5 (f : Nat → Int) (k : Int) : ∀ n, k ∈ ya3 f n ↔ ∃ i, i < n ∧ f i = k
  | 0 => by
    unfold ya3
    constructor
    · intro h; simp at h
    · rintro ⟨i, h, _⟩; omega
  | n + 1 => by
    have ih := qf5 f k n
    have e : k ∈ ya3 f (n + 1) ↔ k ∈ ya3 f n ∨ k = f n := by
      show k ∈ (if f n ∈ ya3 f n then ya3 f n else ya3 f n ++ [f n]) ↔ _
      split
      · rename_i h
        exact ⟨.inl, fun z => z.elim id fun z => z ▸ h⟩
      · rw [List.mem_append, List.mem_singleton]
    rw [e, ih]
    constructor
    · rintro (⟨i, h, z⟩ | z)
      · exact ⟨i, by omega, z⟩
      · exact ⟨n, by omega, z.symm⟩
    · rintro ⟨i, h, z⟩
      by_cases hi : i = n
      · subst hi; exact .inr z.symm
      · exact .inl ⟨i, by omega, z⟩
theorem qef (f : Nat → Int) : ∀ n, (ya3 f n).Nodup
  | 0 => List.nodup_nil
  | n + 1 => by
    have ih := qef f n
    show (if f n ∈ ya3 f n then ya3 f n else ya3 f n ++ [f n]).Nodup
    split
    · exact ih
    · rename_i h
      rw [List.nodup_append]
      exact ⟨ih, by simp, fun x hx y hy z => h (by rw [← List.mem_singleton.mp hy, ← z]; exact hx)⟩
def uniq (ns : List Int) : List Int := ya3 (fun i => ns.getD i 0) ns.length
theorem qes (ns : List Int) (k : Int) : k ∈ uniq ns ↔ k ∈ ns := by
  unfold uniq
  rw [qf5]
  constructor
  · rintro ⟨i, h, z⟩
    rw [List.getD_eq_getElem?_getD, List.getElem?_eq_getElem h] at z
    rw [← z]
    exact List.getElem_mem h
  · intro h
    obtain ⟨i, hi, e⟩ := List.getElem_of_mem h
    exact ⟨i, hi, by rw [List.getD_eq_getElem?_getD, List.getElem?_eq_getElem hi, e]; rfl⟩
theorem yiz (ns : List Int) : (uniq ns).Nodup := qef _ _
theorem qig (ns : List Int) : (uniq ns).length ≤ ns.length := qd6 _ _
def SetO (P : Program) (w : World) (a : Addr) (ks : List Int) : HO := .ext fun h => SetL P w h a ks
section
variable {P : Program} {w : World} {A : Around} {E : Value → Shared → Prop} {s : Shared} {a : Addr} {ks : List Int}
theorem sortedL {Q : Value → Shared → Prop} (hh : A.handled = none) (hS : SetL P w s.heap a ks) (h64 : ks.length < 64)
    (k : ∀ l h' d tk vs ns e, s.heap.objs.size ≤ l → h'.get? l = some (seqObj "list" (List.toArray vs) e) → IntsAre vs ns → ns.Perm ks → ns.Pairwise (· ≤ ·) → (∀ b o, s.heap.get? b = some o → h'.get? b = some o) → Q (.ref l) { s with heap := h', drawn := d, toks := tk }) :
    wpAny (model P w) A (call (.builtin "sorted") [.ref a]) Q E s := by
  refine Calls.call_function_entry kind_sorted plain_sorted entry_sorted (args_sorted1 (.ref a)) ?_
  unfold Builtin.«sorted»
  refine wpAny_bind (m := checkCount "sorted" 1 1 _) ?_
  refine wpAny_pure ?_
  refine wpAny_bind (collectL (by simpa using hh) hS (by omega) fun vs ns h1 d tk i1 p1 hz kp => ?_)
  have hvl : vs.length = ks.length := by
    have h1 := IntsAre.length i1
    rw [h1, p1.length_eq]
  refine wpAny_bind (wpAny_newList ?_ (qgs (by omega)))
  have gL : (h1.push (seqObj "list" vs.toArray 0)).get? h1.objs.size = some (seqObj "list" vs.toArray 0) := Heap.get?_push_size _ rfl
  refine wpAny_bind (wpAny_holding (wpAny_call_entry slot_list_sort ⟨_, gL, rfl⟩ entry_list_sort (list_sort_tree gL i1 (by omega) fun out n2 a1 a2 a3 => ⟨_, rfl, ?_⟩) (args_list_sort _)))
  obtain ⟨ep, ge⟩ := sortedHeap_at (out := out) gL
  refine wpAny_pure ⟨_, rfl, k _ _ d tk out.toList n2 ep (Nat.le_of_lt hz) (by simpa using ge) a1 (a2.trans p1) a3 fun b o g => ?_⟩
  have hb : b < h1.objs.size := Heap.lt_size (kp b o g)
  rw [sortedHeap_old (Nat.ne_of_lt hb) (by rw [show (h1.push (seqObj "list" vs.toArray 0)).objs.size = h1.objs.size + 1 from Heap.size_push ..]; exact Nat.lt_succ_of_lt hb)]
  exact Heap.get?_push_of_some _ (kp b o g)
end
section
variable {X : Cx} {pins : List (Addr × Obj)} {σ : St} {H : Hp} {s : Shared}
theorem Inv.draw (I : Inv X pins σ H s) (d : Drawn) : Inv X pins σ H { s with drawn := d } := ⟨I.ok, I.os, I.bare, I.base, I.loc, I.cell, I.free, I.freeC, I.pin, I.hok, I.len⟩
def rSet (P : Program) (w : World) : List V → Hp → VK → Prop := fun xs H Q => ∃ (l : Addr) (ns : List Int), xs = [.ref l] ∧ H l = some (.lst (ns.map V.int)) ∧ ns.length ≤ 4000 ∧ ∀ p, H p = none → Q (.ref p) (upd H p (SetO P w p (uniq ns)))
theorem ycn (hc : X.calm = true) : ycz X (.type "set") (rSet X.prog X.w) := by
  intro pins s σ H xs us Q I r h
  obtain ⟨l, ns, rfl, hH, h4, q⟩ := h
  cases r with
  | cons r rr =>
    cases rr
    cases r
    obtain ⟨z, its, n, rv, hl, e⟩ := I.lstM hH
    have hil : its.length = ns.length := by rw [← hl, List.length_map]
    have hf : H s.heap.objs.size = none := I.hok.fresh (Nat.le_refl _)
    refine qjn (by simpa using I.ok.hd hc) (its := its.toArray) (ns := ns) ⟨_, e, rfl, n, rfl⟩ (by simpa using qis rv) (by rw [List.size_toArray, hil]; unfold scanBound; omega) fun h' tk S kp => ?_
    have ez : its.toArray.size = ns.length := by rw [List.size_toArray, hil]
    rw [ez] at S
    refine ⟨.ref s.heap.objs.size, _, I.laid (o := SetO X.prog X.w s.heap.objs.size (uniq ns)) (t' := tk) (fun b o g => kp b o (Heap.lt_size g) g) (Nat.le_refl _) ?_, rfl, q _ hf⟩
    refine ⟨S, ?_, fun h1 h2 x y => SetL.at x y⟩
    obtain ⟨o, es, ep, t, g, _⟩ := S
    exact ⟨o, g⟩
def rLenSet (P : Program) (w : World) : List V → Hp → VK → Prop := fun xs H Q => ∃ (p : Addr) (ks : List Int), xs = [.ref p] ∧ H p = some (SetO P w p ks) ∧ Q (.int ks.length) H
theorem qcu : ycz X (.builtin "len") (rLenSet X.prog X.w) := by
  intro pins s σ H xs us Q I r h
  obtain ⟨p, ks, rfl, hH, q⟩ := h
  cases r with
  | cons r rr =>
    cases rr
    cases r
    obtain ⟨⟨o, es, ep, t, g, gx, gd, el, ⟨ns, hi, hp⟩, hb, hf, ht, hl⟩, _⟩ := I.hok p _ hH
    have hlen : es.size = ks.length := by
      have h1 := IntsAre.length hi
      rw [List.length_map, Array.length_toList] at h1
      rw [h1, hp.length_eq]
    refine call_len_set g gx gd hf (by unfold scanBound at hb; omega) ?_
    rw [hlen]
    exact ⟨.int ks.length, H, I.tok _, ⟨_, rfl⟩, q⟩
def rSortSet (P : Program) (w : World) : List V → Hp → VK → Prop := fun xs H Q => ∃ (p : Addr) (ks : List Int), xs = [.ref p] ∧ H p = some (SetO P w p ks) ∧ ks.length < 64 ∧ ∀ (l : Addr) (ns : List Int), H l = none → ns.Perm ks → ns.Pairwise (· ≤ ·) → Q (.ref l) (upd H l (.lst (ns.map V.int)))
theorem qeg (hc : X.calm = true) : ycz X (.builtin "sorted") (rSortSet X.prog X.w) := by
  intro pins s σ H xs us Q I r h
  obtain ⟨p, ks, rfl, hH, h64, q⟩ := h
  cases r with
  | cons r rr =>
    cases rr
    cases r
    obtain ⟨S, _⟩ := I.hok p _ hH
    refine sortedL (by simpa using I.ok.hd hc) S h64 fun l h' d tk vs ns e hz gl i1 p1 w1 kp => ?_
    have hf : H l = none := I.hok.fresh hz
    refine ⟨.ref l, _, (I.draw d).laid (o := .lst (ns.map V.int)) (t' := tk) (fun b o g => kp b o g) hz ?_, rfl, q l ns hf p1 w1⟩
    exact ⟨qgs (by rw [List.length_map, p1.length_eq]; omega), vs, e, ygu i1, gl⟩
end
theorem ycm : bootBuiltins "set" = some (.type "set") := by decide +kernel
theorem yev {K : PySem.W.Frag} {t1 t2 : Bool} {l1 l2 : Addr} {xs ys : List V} {g : TG} {tt : TT} {te : TE} {ix : List (Option Nat)} {σ : St} {H : Hp} {QD : Hp → Prop} {D : Addr} (hlen : xs.length = ys.length) (Pv : Nat → Hp → Prop) (h0 : Pv 0 (upd H D (.lst [])))
    (hl : ∀ i H', Pv i H' → Sq K t1 H' l1 xs ∧ Sq K t2 H' l2 ys) (stop : ∀ H', Pv xs.length H' → QD H')
    (step : ∀ i x y p H', xs[i]? = some x → ys[i]? = some y → Pv i H' → H' p = none → g (.ref p) (capS ix σ) (upd H' p (.tup [x, y])) fun σ2 H3 => qbc (capS ix σ) σ2 ∧ tt σ2 H3 fun b H4 =>
      if b = true then te σ2 H4 fun v H5 => ∃ zs, H5 D = some (.lst zs) ∧ zs.length < sizeLine ∧ Pv (i + 1) (upd H5 D (.lst (zs ++ [v]))) else Pv (i + 1) H4) :
    ∃ W : Nat → Nat → Hp → Prop, (∃ m, W 0 m (upd H D (.lst []))) ∧ ∀ i m H, W i m H →
      ((Itz K t1 t2 l1 l2).stop i H ∧ QD H) ∨ ((Itz K t1 t2 l1 l2).go i H ∧ ∃ N : Hp → Prop, (∀ H', N H' → ∃ m', m' < m ∧ W (i + 1) m' H') ∧ ∀ x H', (Itz K t1 t2 l1 l2).yld i H x H' → g x (capS ix σ) H' fun σ2 H2 => qbc (capS ix σ) σ2 ∧ tt σ2 H2 fun b H3 =>
        if b = true then te σ2 H3 fun v H4 => ∃ zs, H4 D = some (.lst zs) ∧ zs.length < sizeLine ∧ N (upd H4 D (.lst (zs ++ [v]))) else N H3) := by
  refine yds (n := xs.length) Pv h0 (fun H' p => ⟨?_, stop H' p⟩) fun i H' hi p => ⟨?_, ?_⟩
  · obtain ⟨q1, q2⟩ := hl _ H' p
    exact ⟨xs, ys, q1, q2, .inl (by simp)⟩
  · obtain ⟨q1, q2⟩ := hl _ H' p
    exact ⟨xs, ys, _, _, q1, q2, List.getElem?_eq_getElem hi, List.getElem?_eq_getElem (by omega)⟩
  · rintro x H2 ⟨pp, u, v, hp, rfl, rfl, hu⟩
    obtain ⟨q1, q2⟩ := hl _ H' p
    obtain ⟨h1, h2⟩ := hu xs ys q1 q2
    exact step i u v pp H' h1 h2 p hp
section
variable {X : Cx}
end
def dOf : V → PyData
  | .non => .none
  | .bl b => .bool b
  | .int i => .int i
  | .str s => .str s
  | _ => .none
theorem flat_at {H : Hp} : ∀ {v : V}, yc9 v = true → At H v (dOf v)
  | .non, _ => .non
  | .bl b, _ => .bl b
  | .int i, _ => .int i
  | .str s, _ => .str s
theorem yf9 {H : Hp} : ∀ {vs : List V}, vs.all yc9 = true → AtAll H vs (vs.map dOf)
  | [], _ => .nil
  | v :: vs, h => by
    rw [List.all_cons, Bool.and_eq_true] at h
    exact .cons (flat_at h.1) (yf9 h.2)
theorem qfo : ∀ {vs : List V}, vs.all yc9 = true → PyData.depthAll (vs.map dOf) ≤ 1
  | [], _ => by simp [PyData.depthAll]
  | v :: vs, h => by
    rw [List.all_cons, Bool.and_eq_true] at h
    have ih := qfo h.2
    have h1 : (dOf v).depth ≤ 1 := by
      cases v <;> first | simp [dOf, PyData.depth] | (simp [yc9] at h)
    simp only [List.map_cons, PyData.depthAll]
    omega
def Fl (xs : List V) : Prop := xs.all yc9 = true ∧ PyData.canLayAll0 (xs.map dOf) = true
def tEq (H : Hp) (xs : List V) : V → Bool
  | .ref a => match H a with | some (.tup ys) => PyData.eqvAll (ys.map dOf) (xs.map dOf) | _ => false
  | _ => false
def tEqU (H : Hp) (xs : List V) : Value → Bool
  | .ref a => match H a with | some (.tup ys) => PyData.eqvAll (ys.map dOf) (xs.map dOf) | _ => false
  | _ => false
theorem yi3 {H : Hp} {xs : List V} : ∀ {us : List V} {vs : List Value}, Vals us vs → (∀ v ∈ us, ∃ a, v = .ref a) → vs.any (tEqU H xs) = us.any (tEq H xs)
  | _, _, .nil, _ => rfl
  | u :: us, _, .cons r t, h => by
    obtain ⟨a, rfl⟩ := h u (by simp)
    cases r
    rw [List.any_cons, List.any_cons, yi3 t (fun v hv => h v (by simp [hv]))]
    rfl
section
variable {X : Cx}
def rInT : R2 := fun x y H Q => ∃ q xs p us, x = .ref q ∧ H q = some (.tup xs) ∧ Fl xs ∧ y = .ref p ∧ H p = some (.lst us) ∧ (∀ v ∈ us, ∃ a ys, v = .ref a ∧ H a = some (.tup ys) ∧ Fl ys) ∧ Q (.bl (us.any (tEq H xs))) H
theorem op_inT {k : Nat} (hr : Room k X.A) : OpR X (compareOp .In) rInT := by
  intro pins s σ H x y v u Q I rx ry h
  obtain ⟨q, xs, p, us, rfl, hq, fx, rfl, hp, hus, k⟩ := h
  cases rx
  cases ry
  obtain ⟨its, r, pl, hz⟩ := I.list (SqL.of hp)
  have hu := hr.units
  obtain ⟨as, rx⟩ := (At.tup hq (yf9 fx.1)).reads I.hok (u := .ref q) rfl
  refine SeqAt.in_listAt (tEqU H xs) pl.isList (fun w hw => ?_) ⟨.bl _, H, I, rfl, ?_⟩
  · obtain ⟨v, hv, rv⟩ := r.back w (by simpa using hw)
    obtain ⟨a, ys, rfl, ha, fy⟩ := hus v hv
    cases rv
    obtain ⟨bs, ry⟩ := (At.tup ha (yf9 fy.1)).reads I.hok (u := .ref a) rfl
    have e : tEqU H xs (.ref a) = PyData.eqv (.tuple (ys.map dOf)) (.tuple (xs.map dOf)) := by
      unfold tEqU
      dsimp only
      rw [ha]
      simp [PyData.eqv]
    rw [e]
    refine PySem.SeqAt.eqAt_reads _ _ _ _ _ _ _ _ ry rx fy.2 fx.2 ?_
    have h1 := qfo fy.1
    have h2 := Nat.min_le_left (PyData.tuple (ys.map dOf)).depth (PyData.tuple (xs.map dOf)).depth
    have h3 : (PyData.tuple (ys.map dOf)).depth ≤ 2 := by
      simp only [PyData.depth]
      omega
    show X.A.units + 1 + _ < _
    omega
  · rw [show its.toArray.any (tEqU H xs) = its.any (tEqU H xs) by simp, yi3 r (fun v hv => by obtain ⟨a, _, e, _⟩ := hus v hv; exact ⟨a, e⟩)]
    exact k
end
end L2
set_option maxHeartbeats 1600000
namespace Mh
open PySem L2 PyProof.Rows
def top (i : Nat) : Stmt := PySem.Challenge.pw_marchmend_k13_no_memories.main.body.getD i (.Pass ⟨0, 0, 0, 0⟩)
def b2i (b : Bool) : Int := if b then 1 else 0
theorem iteB {b : Bool} {A B : Prop} (hb : b = true) (h : A) : if b = true then A else B := by
  rw [if_pos hb]; exact h
theorem iteN {b : Bool} {A B : Prop} (hb : b = false) (h : B) : if b = true then A else B := by
  rw [if_neg (by rw [hb]; exact Bool.false_ne_true)]; exact h
theorem iteD {c : Prop} [Decidable c] {A B : Prop} (hc : c) (h : A) : if decide c = true then A else B := iteB (decide_eq_true hc) h
theorem ycs {α β : Type} {f : α → β} {l : List α} {i : Nat} {d : β} (h : (l.map f)[i]? = some d) : ∃ x, l[i]? = some x ∧ d = f x := by
  rw [List.getElem?_map] at h
  cases e : l[i]? with
  | none => rw [e] at h; cases h
  | some x => rw [e] at h; exact ⟨x, rfl, (Option.some.inj h).symm⟩
structure Hm where
  w : Str
  c : List Int
  r : List V
def tabP : List (Str × List V) := [("stuck", [.str "cell", .str "bit"]), ("slow", [.str "cell", .str "bit"]), ("forgets", [.str "cell", .str "bit"]), ("misreads", [.str "cell", .str "bit"]), ("turns", [.str "cell", .str "cell", .str "bit"]), ("sets", [.str "cell", .str "cell", .str "bit", .str "bit"]),
  ("keeps", [.str "cell", .str "cell", .str "bit", .str "bit"]), ("nowhere", [.str "cell", .str "bit"]), ("other", [.str "cell", .str "cell"]), ("both", [.str "cell", .str "cell", .str "how"])]
def bitV (v : V) : Prop := ∃ b, v = .int (b2i b)
def howV (v : V) : Prop := v = .str "and" ∨ v = .str "or"
inductive Rest : List Str → List V → Prop
  | nil : Rest [] []
  | bit {v : V} {ns : List Str} {vs : List V} : bitV v → Rest ns vs → Rest ("bit" :: ns) (v :: vs)
  | how {v : V} {ns : List Str} {vs : List V} : howV v → Rest ns vs → Rest ("how" :: ns) (v :: vs)
def qau (n : Nat) (ns : List Str) : List V := List.replicate n (V.str "cell") ++ ns.map V.str
def hV (h : Hm) : List V := .str h.w :: (h.c.map V.int ++ h.r)
structure okH (h : Hm) (ns : List Str) : Prop where
  tab : KTD.datumAt h.w tabP = some (qau h.c.length ns)
  rest : Rest ns h.r
  cl : 1 ≤ h.c.length ∧ h.c.length ≤ 2
  rl : ns.length ≤ 2
  nd : h.c.Nodup
  rg : ∀ x ∈ h.c, 0 ≤ x ∧ x < 64
theorem Rest.len {ns : List Str} {vs : List V} (h : Rest ns vs) : vs.length = ns.length := by
  induction h with
  | nil => rfl
  | bit _ _ ih => simp [ih]
  | how _ _ ih => simp [ih]
theorem okH.len {h : Hm} {ns : List Str} (o : okH h ns) : (h.c.map V.int ++ h.r).length = (qau h.c.length ns).length := by
  unfold qau
  simp [o.rest.len]
section
variable {P : Program} {w : World} {K : PySem.W.Frag} {mg : Str → Option Value} {base : Heap}
def ycd : Sp := fun vs H Q _ => ∃ i, vs = [.int i] ∧ Q (.bl true) H
abbrev yb0 : Stmt := top 16
theorem ycr : FnScope ["thing"] ["thing"] (yab yb0) := ⟨rfl, rfl, rfl, by decide +kernel, rfl, by decide +kernel, by decide +kernel⟩
/- slots: 0 thing -/
theorem qhg (B : Bl mg) (F : FnAt K mg "is_whole" yb0 ["thing"]) : Has P w K mg base 1 "is_whole" ["thing"] ycd := by
  refine Has.of F ycr (fun vs H Q E h => ?_) (fun f cdv A outer s H vs Q E hr h => ?_)
  · obtain ⟨i, rfl, _⟩ := h
    rfl
  · obtain ⟨i, rfl, k⟩ := h
    have sc := ycr
    refine ⟨_, (yae (qaw (ya6 (qae qba rfl (B.of rfl) boot_isinstance (qaa (pv 0) (qaa (ybm (v := .ty "int") rfl (B.of rfl) boot_int rfl) yac))) (qbw (pe_not (qae qba rfl (B.of rfl) boot_isinstance (qaa (pv 0) (qaa (ybm (v := .ty "bool") rfl (B.of rfl) boot_bool rfl) yac)))))))), ?_⟩
    refine ⟨_, rfl, _, _, _, _, rfl, .int i, rfl, _, rfl, iteT ?_⟩
    refine ⟨_, rfl, _, _, _, _, rfl, .int i, rfl, _, rfl, ?_⟩
    exact k
def qd1 : Sp := fun vs H Q _ => ∃ b, vs = [.int (b2i b)] ∧ ∀ H', Same H H' → Q (.bl true) H'
abbrev qco : Stmt := top 17
theorem qdy : FnScope ["thing"] ["thing"] (yab qco) := ⟨rfl, rfl, rfl, by decide +kernel, rfl, by decide +kernel, by decide +kernel⟩
/- slots: 0 thing -/
theorem qkf (yat : Has P w K mg base 1 "is_whole" ["thing"] ycd) (F : FnAt K mg "is_bit" qco ["thing"]) : Has P w K mg base 2 "is_bit" ["thing"] qd1 := by
  refine Has.of F qdy (fun vs H Q E h => ?_) (fun f cdv A outer s H vs Q E hr h => ?_)
  · obtain ⟨i, rfl, _⟩ := h
    rfl
  · obtain ⟨b, rfl, k⟩ := h
    have sc := qdy
    refine ⟨_, (yae (qaw (ya6 (qah yat hr (qaa (pv 0) yac)) (qbw (qat qb2 (pv 0) (yeg (qaa qac (qaa qac yac))) (by with_unfolding_all rfl)))))), ?_⟩
    refine ⟨_, rfl, _, rfl, _, rfl, iteT ?_⟩
    refine ⟨_, rfl, (by show 2 ≤ sizeLine; decide), fun p hp => ⟨p, _, rfl, .inr (SqT.of yaa), rfl, rfl, ?_⟩⟩
    cases b <;> exact k _ (Same.upd (Same.refl _) hp)
def yek (K : PySem.W.Frag) : Sp := fun vs H Q _ => ∃ x a xs, vs = [.str x, .ref a] ∧ (∀ H', SqT K H' a xs) ∧ xs.all yc9 = true ∧ Q (.bl (inV (.str x) xs)) H
abbrev qbn : Stmt := top 18
theorem yce : FnScope ["thing", "words"] ["thing", "words"] (yab qbn) := ⟨rfl, rfl, rfl, by decide +kernel, rfl, by decide +kernel, by decide +kernel⟩
/- slots: 0 thing, 1 words -/
theorem yg1 (B : Bl mg) (F : FnAt K mg "is_one_of" qbn ["thing", "words"]) : Has P w K mg base 1 "is_one_of" ["thing", "words"] (yek K) := by
  refine Has.of F yce (fun vs H Q E h => ?_) (fun f cdv A outer s H vs Q E hr h => ?_)
  · obtain ⟨x, a, xs, rfl, _⟩ := h
    rfl
  · obtain ⟨x, a, xs, rfl, hq, hf, k⟩ := h
    have sc := yce
    refine ⟨_, (yae (qaw (ya6 (qae qba rfl (B.of rfl) boot_isinstance (qaa (pv 0) (qaa (ybm (v := .ty "str") rfl (B.of rfl) boot_str rfl) yac))) (qbw (qat qb2 (pv 0) (pv 1) (by with_unfolding_all rfl)))))), ?_⟩
    refine ⟨_, rfl, _, _, _, _, rfl, .str x, rfl, _, rfl, iteT ?_⟩
    exact ⟨_, rfl, _, rfl, a, xs, rfl, .inr (hq _), rfl, hf, k⟩
def qf0 : Sp := fun vs H Q _ => ∃ x, vs = [.int x] ∧ 0 ≤ x ∧ x < 64 ∧ Q (.bl true) H
abbrev yb9 : Stmt := top 25
theorem yde : FnScope ["thing"] ["thing"] (yab yb9) := ⟨rfl, rfl, rfl, by decide +kernel, rfl, by decide +kernel, by decide +kernel⟩
/- slots: 0 thing -/
theorem yim (qbf : ∃ t, mg "MOST_CELLS" = some (.int 64 t)) (yat : Has P w K mg base 1 "is_whole" ["thing"] ycd) (F : FnAt K mg "is_cell" yb9 ["thing"]) : Has P w K mg base 2 "is_cell" ["thing"] qf0 := by
  refine Has.of F yde (fun vs H Q E h => ?_) (fun f cdv A outer s H vs Q E hr h => ?_)
  · obtain ⟨x, rfl, _⟩ := h
    rfl
  · obtain ⟨x, rfl, h0, h1, k⟩ := h
    have sc := yde
    refine ⟨_, (yae (qaw (ya6 (qah yat hr (qaa (pv 0) yac)) (ya6 (qat ygk (pv 0) qac (yai _)) (qbw (qat op_lt (pv 0) (qc4 qbf) (yai _))))))), ?_⟩
    refine ⟨_, rfl, x, rfl, _, rfl, iteT ?_⟩
    refine ⟨_, rfl, _, _, rfl, rfl, _, rfl, iteD (by omega) ?_⟩
    refine ⟨_, rfl, _, _, rfl, rfl, ?_⟩
    show Q (.bl (decide (x < 64))) H
    rw [decide_eq_true h1]
    exact k
def PartOk (nm : Str) (v : V) : Prop := (nm = "cell" ∧ ∃ x, v = .int x ∧ 0 ≤ x ∧ x < 64) ∨ (nm = "bit" ∧ bitV v) ∨ (nm = "how" ∧ howV v)
def yfz : Sp := fun vs H Q _ => ∃ nm v, vs = [.str nm, v] ∧ PartOk nm v ∧ ∀ H', Same H H' → Q (.bl true) H'
abbrev qca : Stmt := top 26
theorem ydg : FnScope ["name", "thing"] ["name", "thing"] (yab qca) := ⟨rfl, rfl, rfl, by decide +kernel, rfl, by decide +kernel, by decide +kernel⟩
/- slots: 0 name, 1 thing -/
theorem qim (qea : GTup K mg "JOININGS" [.str "and", .str "or"]) (yex : Has P w K mg base 2 "is_cell" ["thing"] qf0) (qbr : Has P w K mg base 2 "is_bit" ["thing"] qd1) (qdq : Has P w K mg base 1 "is_one_of" ["thing", "words"] (yek K)) (F : FnAt K mg "is_part" qca ["name", "thing"]) : Has P w K mg base 3 "is_part" ["name", "thing"] yfz := by
  refine Has.of F ydg (fun vs H Q E h => ?_) (fun f cdv A outer s H vs Q E hr h => ?_)
  · obtain ⟨nm, v, rfl, _⟩ := h
    rfl
  · obtain ⟨nm, v, rfl, hp, k⟩ := h
    have sc := ydg
    refine ⟨_, (yak (qb4 (qar ybk (pv 0) yal (yai _))
        (yae (qaw (qah yex hr (qaa (pv 1) yac))))
        ya0)
      (yak (qb4 (qar ybk (pv 0) yal (yai _))
        (yae (qaw (qah qbr hr (qaa (pv 1) yac))))
        ya0)
      (yae (qaw (qah qdq hr (qaa (pv 1) (qaa (qi8 qea) yac))))))), ?_⟩
    rcases hp with ⟨rfl, x, rfl, h0, h1⟩ | ⟨rfl, b, rfl⟩ | ⟨rfl, hv⟩
    · refine ⟨_, rfl, rfl, _, rfl, iteB (by decide +kernel) ?_⟩
      exact ⟨_, rfl, x, rfl, h0, h1, k H (Same.refl H)⟩
    · refine ⟨_, rfl, rfl, _, rfl, iteN (by decide +kernel) ?_⟩
      refine ⟨_, rfl, rfl, _, rfl, iteB (by decide +kernel) ?_⟩
      exact ⟨_, rfl, b, rfl, k⟩
    · refine ⟨_, rfl, rfl, _, rfl, iteN (by decide +kernel) ?_⟩
      refine ⟨_, rfl, rfl, _, rfl, iteN (by decide +kernel) ?_⟩
      rcases hv with rfl | rfl
      · refine ⟨_, rfl, fun a ha => ⟨_, a, _, rfl, ha, by decide, ?_⟩⟩
        exact k H (Same.refl H)
      · refine ⟨_, rfl, fun a ha => ⟨_, a, _, rfl, ha, by decide, ?_⟩⟩
        exact k H (Same.refl H)
def HAt (H : Hp) (v : V) (h : Hm) : Prop := ∃ a, v = .ref a ∧ H a = some (.tup (hV h))
def yfp : Sp := fun vs H Q _ => ∃ v h ns, vs = [v] ∧ HAt H v h ∧ okH h ns ∧ Q (.bl true) H
abbrev qb0 : Stmt := top 27
theorem yco : FnScope ["thing"] ["thing"] (yab qb0) := ⟨rfl, rfl, rfl, by decide +kernel, rfl, by decide +kernel, by decide +kernel⟩
/- slots: 0 thing -/
theorem yhd (B : Bl mg) {aP : Addr} (gP : mg "PARTS" = some (.ref aP)) (TP : TabK K aP tabP) (F : FnAt K mg "has_word" qb0 ["thing"]) : Has P w K mg base 1 "has_word" ["thing"] yfp := by
  refine Has.of F yco (fun vs H Q E h => ?_) (fun f cdv A outer s H vs Q E hr h => ?_)
  · obtain ⟨v, h, ns, rfl, _⟩ := h
    rfl
  · obtain ⟨v, h, ns, rfl, ⟨a, rfl, ha⟩, ok, k⟩ := h
    have sc := yco
    refine ⟨_, (yae (qaw (ya6 (qae qba rfl (B.of rfl) boot_isinstance (qaa (pv 0) (qaa (ybm (v := .ty "tuple") rfl (B.of rfl) boot_tuple rfl) yac))) (ya6 (qat ygi (qae qaj rfl (B.of rfl) boot_len (qaa (pv 0) yac)) qac (yai _)) (ya6 (qae qba rfl (B.of rfl) boot_isinstance (qaa (yay yav (pv 0) qac (fun _ _ => rfl)) (qaa (ybm (v := .ty "str") rfl (B.of rfl) boot_str rfl) yac))) (qbw (qat (yh2 (D := tabP)) (yay yav (pv 0) qac (fun _ _ => rfl)) (ya5 (v := .ref aP) rfl gP rfl) (by with_unfolding_all rfl)))))))), ?_⟩
    refine ⟨_, rfl, _, _, _, _, rfl, .tup ha, rfl, _, rfl, iteT ?_⟩
    refine ⟨_, rfl, a, _, rfl, .inr (SqT.of ha), _, _, rfl, rfl, _, rfl, iteD (by unfold hV; simp; omega) ?_⟩
    refine ⟨_, rfl, a, _, _, _, rfl, rfl, SqT.of ha, qaf 0 rfl, _, _, _, _, rfl, .str _, rfl, _, rfl, iteT ?_⟩
    refine ⟨_, rfl, a, _, _, _, rfl, rfl, SqT.of ha, qaf 0 rfl, aP, h.w, rfl, rfl, TP, ?_⟩
    have e : KTD.inKeys h.w tabP = true := by rw [← KTD.isSome_datumAt, ok.tab]; rfl
    rw [e]
    exact k
end
section
variable {P : Program} {w : World} {K : PySem.W.Frag} {mg : Str → Option Value} {base : Heap}
theorem Rest.get {ns : List Str} {vs : List V} (h : Rest ns vs) : ∀ {i : Nat} {n : Str} {v : V}, ns[i]? = some n → vs[i]? = some v → (n = "bit" ∧ bitV v) ∨ (n = "how" ∧ howV v) := by
  induction h with
  | nil => intro i n v h; simp at h
  | bit hb _ ih =>
    intro i n v h1 h2
    cases i with
    | zero => simp at h1 h2; subst h1 h2; exact .inl ⟨rfl, hb⟩
    | succ i => simp at h1 h2; exact ih h1 h2
  | how hb _ ih =>
    intro i n v h1 h2
    cases i with
    | zero => simp at h1 h2; subst h1 h2; exact .inr ⟨rfl, hb⟩
    | succ i => simp at h1 h2; exact ih h1 h2
theorem okH.cellAt {h : Hm} {ns : List Str} (o : okH h ns) {i : Nat} {x y : V} (hx : (qau h.c.length ns)[i]? = some x) (hy : (h.c.map V.int ++ h.r)[i]? = some y) :
    (x = .str "cell" ∧ ∃ c, h.c[i]? = some c ∧ y = .int c) ∨ (h.c.length ≤ i ∧ ((x = .str "bit" ∧ bitV y) ∨ (x = .str "how" ∧ howV y))) := by
  unfold qau at hx
  by_cases hi : i < h.c.length
  · rw [List.getElem?_append_left (by simpa using hi), List.getElem?_replicate, if_pos hi] at hx
    rw [List.getElem?_append_left (by simpa using hi)] at hy
    obtain ⟨c, hc, rfl⟩ := ycs hy
    exact .inl ⟨(Option.some.inj hx).symm, c, hc, rfl⟩
  · rw [List.getElem?_append_right (by simpa using Nat.le_of_not_lt hi)] at hx
    rw [List.getElem?_append_right (by simpa using Nat.le_of_not_lt hi)] at hy
    simp only [List.length_replicate, List.length_map] at hx hy
    obtain ⟨n, hn, rfl⟩ := ycs hx
    rcases o.rest.get hn hy with ⟨rfl, hb⟩ | ⟨rfl, hb⟩
    · exact .inr ⟨Nat.le_of_not_lt hi, .inl ⟨rfl, hb⟩⟩
    · exact .inr ⟨Nat.le_of_not_lt hi, .inr ⟨rfl, hb⟩⟩
theorem okH.partAt {h : Hm} {ns : List Str} (o : okH h ns) {i : Nat} {x y : V} (hx : (qau h.c.length ns)[i]? = some x) (hy : (h.c.map V.int ++ h.r)[i]? = some y) : ∃ nm, x = .str nm ∧ PartOk nm y := by
  rcases o.cellAt hx hy with ⟨rfl, c, hc, rfl⟩ | ⟨_, ⟨rfl, hb⟩ | ⟨rfl, hb⟩⟩
  · exact ⟨_, rfl, .inl ⟨rfl, c, rfl, o.rg c (List.mem_of_getElem? hc)⟩⟩
  · exact ⟨_, rfl, .inr (.inl ⟨rfl, hb⟩)⟩
  · exact ⟨_, rfl, .inr (.inr ⟨rfl, hb⟩)⟩
theorem qf9 (h : Hm) : cutV (hV h) (some 1) none = h.c.map V.int ++ h.r := by
  unfold hV
  exact yeq 1
theorem qhv (h : Hm) : ¬ (HT.sIx (hV h).length 0 (some 1) = 0 ∧ HT.sIx (hV h).length (hV h).length none = (hV h).length) := by
  rintro ⟨h0, _⟩
  unfold hV HT.sIx at h0
  simp at h0
def qek : Sp := fun vs H Q _ => ∃ v h ns, vs = [v] ∧ HAt H v h ∧ okH h ns ∧ ∀ H', Same H H' → Q (.bl true) H'
abbrev ybn : Stmt := top 29
theorem qcg : FnScope ["thing", "names"] ["thing"] (yab ybn) := ⟨rfl, rfl, rfl, by decide +kernel, rfl, by decide +kernel, by decide +kernel⟩
/- slots: 0 thing, 1 names -/
theorem qg3 (B : Bl mg) (yep : mg "zip" = none) (yem : mg "all" = none) {aP : Addr} (gP : mg "PARTS" = some (.ref aP)) (TP : TabK K aP tabP) (yey : Has P w K mg base 3 "is_part" ["name", "thing"] yfz) (F : FnAt K mg "has_parts" ybn ["thing"]) : Has P w K mg base 4 "has_parts" ["thing"] qek := by
  refine Has.of F qcg (fun vs H Q E h => ?_) (fun f cdv A outer s H vs Q E hr h => ?_)
  · obtain ⟨v, h, ns, rfl, _⟩ := h
    rfl
  · obtain ⟨v, h, ns, rfl, ⟨a, rfl, ha⟩, ok, k⟩ := h
    have sc := qcg
    refine ⟨_, (yak (qbq (i := 1) sc.nd rfl (Or.inl rfl) (yay (qid (D := tabP)) (ya5 (v := .ref aP) rfl gP rfl) (yay yav (pv 0) qac (fun _ _ => rfl)) (fun _ _ => rfl)))
      (yae (qaw (ya6 (qat ybk (qae qaj rfl (B.of rfl) boot_len (qaa (pv 0) yac)) (qbi yb8 (qae qaj rfl (B.of rfl) boot_len (qaa (pv 1) yac)) qac) (yai _)) (qbw (qae (ydv rfl) rfl yem qdx (qaa (qc1 rfl (qbl rfl) (M := ["name", "part"]) (ix := [none, none]) (qib rfl yep (qaa (pv 1) (qaa (qbs yih (pv 0) (ybt qac) qci) yac))) (fun _ _ _ _ => (qgh (K := K) (n := 2) rfl rfl (qa2 (qan (i := 0) (show List.Nodup (["name", "part"] : List Str) by decide +kernel) rfl (Or.inl rfl)) (qa2 (qan (i := 1) (show List.Nodup (["name", "part"] : List Str) by decide +kernel) rfl (Or.inl rfl)) ycu)))) (fun _ _ _ _ => qd8) (fun _ _ _ _ => (qah yey hr (qaa (pv 0) (qaa (pv 1) yac))))) yac))))))), ?_⟩
    refine ⟨_, rfl, a, _, _, _, rfl, rfl, SqT.of ha, qaf 0 rfl, aP, h.w, _, rfl, rfl, TP, ok.tab, fun pn hpn => ?_⟩
    refine ⟨_, rfl, a, _, rfl, .inr (SqT.of ha), _, rfl, pn, _, rfl, .inr (hpn _), _, _, rfl, rfl, rfl, _, rfl, iteD ?_ ?_⟩
    · have := ok.len
      congr 1
      unfold hV
      rw [List.length_cons, this]
      rfl
    refine ⟨_, rfl, _, rfl, _, rfl, a, _, rfl, SqT.of ha, qhv h, fun q hq => ?_⟩
    rw [qf9]
    have s1 : Same H (upd H q (.tup (h.c.map V.int ++ h.r))) := (Same.refl H).upd hq
    have e1 : upd H q (.tup (h.c.map V.int ++ h.r)) q = some (.tup (h.c.map V.int ++ h.r)) := yaa
    revert s1 e1
    generalize upd H q (.tup (h.c.map V.int ++ h.r)) = H1
    intro s1 e1
    refine ⟨true, true, pn, q, _, _, rfl, hpn _, SqT.of e1, fun D hD => ?_⟩
    refine yev (K := K) (ok.len.symm) (fun i H' => Same H1 H' ∧ H' D = some (.lst ((List.replicate i true).map V.bl))) ⟨(Same.refl H1).upd hD, yaa⟩ ?_ ?_ ?_
    · rintro i H2 ⟨s2, e2⟩
      exact ⟨hpn _, SqT.of (s2 _ _ e1)⟩
    · rintro H2 ⟨s2, e2⟩
      refine ⟨D, _, rfl, e2, ?_⟩
      rw [show (List.replicate (qau h.c.length ns).length true).all id = true by simp]
      exact k _ (s1.trans s2)
    · rintro i x y p H2 hx hy ⟨s2, e2⟩ hp
      obtain ⟨nm, rfl, hpo⟩ := ok.partAt hx hy
      refine ⟨p, _, rfl, SqT.of yaa, rfl, ?_⟩
      refine ⟨_, _, rfl, _, _, rfl, rfl, qbc.set (qbc.set (qbc.refl _) rfl) rfl, yes ?_⟩
      refine ⟨_, rfl, _, rfl, nm, y, rfl, hpo, fun H3 s3 => ?_⟩
      have s23 : Same H2 H3 := ((Same.refl H2).upd hp).trans s3
      refine ⟨_, s23 _ _ e2, qc2 ?_, (s2.trans s23).at hD, ?_⟩
      · have h1 := (List.getElem?_eq_some_iff.mp hx).1
        have h2 := ok.cl
        have h3 := ok.rl
        simp [qau] at h1 ⊢
        omega
      · rw [yaa, List.replicate_succ', List.map_append]; rfl
end
section
variable {P : Program} {w : World} {K : PySem.W.Frag} {mg : Str → Option Value} {base : Heap}
theorem qha {h : Hm} {i : Nat} (hi : h.c.length ≤ i) : h.c.take (i + 1) = h.c.take i := by
  rw [List.take_of_length_le hi, List.take_of_length_le (by omega)]
def yby : Sp := fun vs H Q _ => ∃ v h ns, vs = [v] ∧ HAt H v h ∧ okH h ns ∧ ∀ D H', Same H H' → H D = none → H' D = some (.lst (h.c.map V.int)) → Q (.ref D) H'
abbrev qbz : Stmt := top 28
theorem yct : FnScope ["harm"] ["harm"] (yab qbz) := ⟨rfl, rfl, rfl, by decide +kernel, rfl, by decide +kernel, by decide +kernel⟩
/- slots: 0 harm -/
theorem yhh (B : Bl mg) (yep : mg "zip" = none) {aP : Addr} (gP : mg "PARTS" = some (.ref aP)) (TP : TabK K aP tabP) (F : FnAt K mg "cells_in" qbz ["harm"]) : Has P w K mg base 1 "cells_in" ["harm"] yby := by
  refine Has.of F yct (fun vs H Q E h => ?_) (fun f cdv A outer s H vs Q E hr h => ?_)
  · obtain ⟨v, h, ns, rfl, _⟩ := h
    rfl
  · obtain ⟨v, h, ns, rfl, ⟨a, rfl, ha⟩, ok, k⟩ := h
    have sc := yct
    refine ⟨_, (yae (qaw (qc1 rfl (qbl rfl) (M := ["name", "part"]) (ix := [none, none]) (qib rfl yep (qaa (yay (qid (D := tabP)) (ya5 (v := .ref aP) rfl gP rfl) (yay yav (pv 0) qac (fun _ _ => rfl)) (fun _ _ => rfl)) (qaa (qbs yih (pv 0) (ybt qac) qci) yac))) (fun _ _ _ _ => (qgh (K := K) (n := 2) rfl rfl (qa2 (qan (i := 0) (show List.Nodup (["name", "part"] : List Str) by decide +kernel) rfl (Or.inl rfl)) (qa2 (qan (i := 1) (show List.Nodup (["name", "part"] : List Str) by decide +kernel) rfl (Or.inl rfl)) ycu)))) (fun _ _ _ _ => (yge (qar ybk (pv 0) yal (yai _)))) (fun _ _ _ _ => (pv 1))))), ?_⟩
    refine ⟨_, rfl, a, _, _, _, rfl, rfl, SqT.of ha, qaf 0 rfl, aP, h.w, _, rfl, rfl, TP, ok.tab, fun pn hpn => ?_⟩
    refine ⟨_, rfl, _, rfl, a, _, rfl, SqT.of ha, qhv h, fun q hq => ?_⟩
    rw [qf9]
    have s1 : Same H (upd H q (.tup (h.c.map V.int ++ h.r))) := (Same.refl H).upd hq
    have e1 : upd H q (.tup (h.c.map V.int ++ h.r)) q = some (.tup (h.c.map V.int ++ h.r)) := yaa
    revert s1 e1
    generalize upd H q (.tup (h.c.map V.int ++ h.r)) = H1
    intro s1 e1
    refine ⟨true, true, pn, q, _, _, rfl, hpn _, SqT.of e1, fun D hD => ?_⟩
    refine yev (K := K) (ok.len.symm) (fun i H' => Same H1 H' ∧ H' D = some (.lst ((h.c.take i).map V.int))) ⟨(Same.refl H1).upd hD, yaa⟩ ?_ ?_ ?_
    · rintro i H2 ⟨s2, e2⟩
      exact ⟨hpn _, SqT.of (s2 _ _ e1)⟩
    · rintro H2 ⟨s2, e2⟩
      rw [List.take_of_length_le (by simp [qau])] at e2
      exact k D H2 (s1.trans s2) (s1.free hD) e2
    · rintro i x y p H2 hx hy ⟨s2, e2⟩ hp
      have s3 : Same H2 (upd H2 p (.tup [x, y])) := (Same.refl H2).upd hp
      refine ⟨p, _, rfl, SqT.of yaa, rfl, ?_⟩
      revert s3
      generalize upd H2 p (.tup [x, y]) = H3
      intro s3
      refine ⟨_, _, rfl, _, _, rfl, rfl, qbc.set (qbc.set (qbc.refl _) rfl) rfl, ?_⟩
      rcases ok.cellAt hx hy with ⟨rfl, c, hc, rfl⟩ | ⟨hge, hh⟩
      · refine ⟨_, rfl, rfl, _, rfl, iteB (by decide +kernel) ?_⟩
        refine ⟨_, rfl, _, s3 _ _ e2, qc2 ?_, (s2.trans s3).at hD, ?_⟩
        · have := ok.cl
          simp
          omega
        · rw [yaa, List.take_add_one, hc]; simp
      · have hxn : ∃ nm, x = .str nm ∧ nm ≠ "cell" := by
          rcases hh with ⟨rfl, _⟩ | ⟨rfl, _⟩
          · exact ⟨_, rfl, by decide +kernel⟩
          · exact ⟨_, rfl, by decide +kernel⟩
        obtain ⟨nm, rfl, hnm⟩ := hxn
        refine ⟨_, rfl, rfl, _, rfl, iteN (by simpa using hnm) ?_⟩
        refine ⟨s2.trans s3, ?_⟩
        rw [qha hge]
        exact s3 _ _ e2
theorem not_take {l : List Int} (h : l.Nodup) {i : Nat} (hi : i < l.length) : l[i] ∉ l.take i := by
  intro hm
  obtain ⟨j, hj, e⟩ := List.getElem_of_mem hm
  rw [List.getElem_take] at e
  have hj' : j < i := by simp at hj; omega
  have := (List.nodup_iff_pairwise_ne.mp h)
  exact (List.pairwise_iff_getElem.mp h j i (by omega) hi hj') e
theorem qgu {l : List Int} (h : l.Nodup) : ∀ i, i ≤ l.length → ya3 (fun i => l.getD i 0) i = l.take i
  | 0, _ => rfl
  | i + 1, hi => by
    show (if l.getD i 0 ∈ ya3 (fun i => l.getD i 0) i then ya3 (fun i => l.getD i 0) i else ya3 (fun i => l.getD i 0) i ++ [l.getD i 0]) = _
    rw [qgu h i (by omega)]
    have e : l.getD i 0 = l[i] := by rw [List.getD_eq_getElem?_getD, List.getElem?_eq_getElem (by omega)]; rfl
    rw [e, if_neg (not_take h (by omega)), List.take_add_one, List.getElem?_eq_getElem (by omega)]
    rfl
theorem yfm {l : List Int} (h : l.Nodup) : uniq l = l := by
  unfold uniq
  rw [qgu h _ (Nat.le_refl _), List.take_length]
theorem HAt.same {H H' : Hp} {v : V} {h : Hm} (s : Same H H') (x : HAt H v h) : HAt H' v h := by
  obtain ⟨a, rfl, ha⟩ := x
  exact ⟨a, rfl, s _ _ ha⟩
def yf3 : Sp := fun vs H Q _ => ∃ v h ns, vs = [v] ∧ HAt H v h ∧ okH h ns ∧ ∀ H', Same H H' → Q (.bl true) H'
abbrev qb9 : Stmt := top 30
theorem ydf : FnScope ["thing", "cells"] ["thing"] (yab qb9) := ⟨rfl, rfl, rfl, by decide +kernel, rfl, by decide +kernel, by decide +kernel⟩
/- slots: 0 thing, 1 cells -/
theorem yiw (B : Bl mg) (qc0 : mg "set" = none) (yeb : Has P w K mg base 1 "has_word" ["thing"] yfp) (ydr : Has P w K mg base 4 "has_parts" ["thing"] qek) (qa7 : Has P w K mg base 1 "cells_in" ["harm"] yby) (F : FnAt K mg "is_harm" qb9 ["thing"]) : Has P w K mg base 5 "is_harm" ["thing"] yf3 := by
  refine Has.of F ydf (fun vs H Q E h => ?_) (fun f cdv A outer s H vs Q E hr h => ?_)
  · obtain ⟨v, h, ns, rfl, _⟩ := h
    rfl
  · obtain ⟨v, h, ns, rfl, hv, ok, k⟩ := h
    have sc := ydf
    refine ⟨_, (yak (qb4 (PW.pt (qi7 (qdk (qcz (qah yeb hr (qaa (pv 0) yac)))) (ygr (qdk (qcz (qah ydr hr (qaa (pv 0) yac)))))))
        (yae (qaw yed))
        ya0)
      (yak (qbq (i := 1) sc.nd rfl (Or.inl rfl) (qah qa7 hr (qaa (pv 0) yac)))
      (yae (qaw (qat ybk (qae qcu rfl (B.of rfl) boot_len (qaa (yc7 (ycn rfl) rfl qc0 ycm (qaa (pv 1) yac)) yac)) (qae qaj rfl (B.of rfl) boot_len (qaa (pv 1) yac)) (yai _)))))), ?_⟩
    refine ⟨_, rfl, v, h, ns, rfl, hv, ok, _, rfl, iteF ?_⟩
    refine ⟨_, rfl, v, h, ns, rfl, hv, ok, fun H1 s1 => ⟨_, rfl, iteF ?_⟩⟩
    refine ⟨_, rfl, v, h, ns, rfl, HAt.same s1 hv, ok, fun D H2 s2 hD e2 => ?_⟩
    refine ⟨_, rfl, D, h.c, rfl, e2, by have := ok.cl; omega, fun p hp => ?_⟩
    refine ⟨p, _, rfl, yaa, ?_⟩
    have s3 : Same H2 (upd H2 p (SetO P w p (uniq h.c))) := (Same.refl H2).upd hp
    refine ⟨_, rfl, D, _, rfl, .inl (SqL.of (s3 _ _ e2)), rfl, ?_⟩
    rw [yfm ok.nd, List.length_map, decide_eq_true rfl]
    rw [yfm ok.nd] at s3
    exact k _ ((s1.trans s2).trans s3)
end
theorem qh3 {l : List Int} (h : l.Nodup) : ∀ {S : List Int}, (∀ x ∈ l, x ∈ S) → l.length ≤ S.length := by
  induction l with
  | nil => intro S _; exact Nat.zero_le _
  | cons x l ih =>
    intro S hs
    have hx := hs x (by simp)
    have hn := List.nodup_cons.mp h
    have := ih hn.2 (S := S.erase x) (fun y hy => (List.mem_erase_of_ne (fun z => by subst z; exact hn.1 hy)).mpr (hs y (by simp [hy])))
    rw [List.length_erase_of_mem hx] at this
    have := List.length_pos_of_mem hx
    simp
    omega
def allC (hs : List Hm) : List Int := hs.flatMap Hm.c
structure okHs (hs : List Hm) (S : List Int) : Prop where
  len : hs.length ≤ 3
  ok : ∀ h ∈ hs, ∃ ns, okH h ns
  sl : S.length ≤ 3
  mem : ∀ h ∈ hs, ∀ c ∈ h.c, c ∈ S
structure HsV (H : Hp) (vs : List V) (hs : List Hm) : Prop where
  len : vs.length = hs.length
  at_ : ∀ (i : Nat) (v : V) (h : Hm), vs[i]? = some v → hs[i]? = some h → HAt H v h
theorem HsV.same {H H' : Hp} {vs : List V} {hs : List Hm} (s : Same H H') (x : HsV H vs hs) : HsV H' vs hs := ⟨x.len, fun i v h a b => HAt.same s (x.at_ i v h a b)⟩
theorem HsV.get {H : Hp} {vs : List V} {hs : List Hm} (x : HsV H vs hs) {i : Nat} {v : V} (h : vs[i]? = some v) : ∃ g, hs[i]? = some g ∧ HAt H v g := by
  have hi := (List.getElem?_eq_some_iff.mp h).1
  have e : hs[i]? = some (hs[i]'(by rw [← x.len]; exact hi)) := List.getElem?_eq_getElem _
  exact ⟨_, e, x.at_ i v _ h e⟩
theorem ycl {hs : List Hm} {i : Nat} {h : Hm} (e : hs[i]? = some h) : allC (hs.take (i + 1)) = allC (hs.take i) ++ h.c := by
  unfold allC
  rw [List.take_add_one, e]
  simp
theorem okHs.sub {hs : List Hm} {S : List Int} (o : okHs hs S) {l : List Hm} (hl : ∀ h ∈ l, h ∈ hs) : ∀ x ∈ allC l, x ∈ S := by
  intro x hx
  unfold allC at hx
  obtain ⟨h, hh, hc⟩ := List.mem_flatMap.mp hx
  exact o.mem h (hl h hh) x hc
theorem okHs.few {hs : List Hm} {S : List Int} (o : okHs hs S) {l : List Hm} (hl : ∀ h ∈ l, h ∈ hs) : (uniq (allC l)).length ≤ 3 :=
  Nat.le_trans (qh3 (yiz _) (fun x hx => o.sub hl x ((qes _ x).mp hx))) o.sl
theorem allC_len {l : List Hm} (h : ∀ x ∈ l, x.c.length ≤ 2) : (allC l).length ≤ 2 * l.length := by
  induction l with
  | nil => simp [allC]
  | cons a l ih =>
    have h1 := h a (by simp)
    have h2 := ih (fun x hx => h x (by simp [hx]))
    unfold allC at *
    rw [List.flatMap_cons, List.length_append, List.length_cons]
    omega
theorem okHs.clen {hs : List Hm} {S : List Int} (o : okHs hs S) {l : List Hm} (hl : ∀ h ∈ l, h ∈ hs) : (allC l).length ≤ 2 * l.length :=
  allC_len fun x hx => by
    obtain ⟨ns, h⟩ := o.ok x (hl x hx)
    exact h.cl.2
theorem qbu {c : Prop} [Decidable c] {A B : Prop} (hc : ¬ c) (h : B) : if decide c = true then A else B := iteN (decide_eq_false hc) h
section
variable {P : Program} {w : World} {K : PySem.W.Frag} {mg : Str → Option Value} {base : Heap}
def ycw : Sp := fun vs H Q _ => ∃ L us hs S, vs = [.ref L] ∧ H L = some (.lst us) ∧ HsV H us hs ∧ okHs hs S ∧ ∀ H', Same H H' → Q .non H'
abbrev qa0 : Stmt := top 31
theorem qbm : FnScope ["thing", "cells", "number", "harm"] ["thing"] (yab qa0) := ⟨rfl, rfl, rfl, by decide +kernel, rfl, by decide +kernel, by decide +kernel⟩
/- slots: 0 thing, 1 cells, 2 number, 3 harm -/
theorem qeo (B : Bl mg) (qc0 : mg "set" = none) (qc6 : ∃ t, mg "MOST_HARMS" = some (.int 3 t)) (qcs : ∃ t, mg "MOST_UNLIKE" = some (.int 3 t)) (qez : Has P w K mg base 5 "is_harm" ["thing"] yf3) (qa7 : Has P w K mg base 1 "cells_in" ["harm"] yby) (F : FnAt K mg "look_at_harms" qa0 ["thing"]) : Has P w K mg base 6 "look_at_harms" ["thing"] ycw := by
  refine Has.of F qbm (fun vs H Q E h => ?_) (fun f cdv A outer s H vs Q E hr h => ?_)
  · obtain ⟨L, us, hs, S, rfl, _⟩ := h
    rfl
  · obtain ⟨L, us, hs, S, rfl, hL, hv, ok, k⟩ := h
    have sc := qbm
    refine ⟨_, (yak (qb4 (PW.pt (qi7 (qdk (qcz (qae qba rfl (B.of rfl) boot_isinstance (qaa (pv 0) (qaa (ybm (v := .ty "list") rfl (B.of rfl) boot_list rfl) yac))))) (ygr (qar ygi (qae qaj rfl (B.of rfl) boot_len (qaa (pv 0) yac)) (qc4 qc6) (yai _)))))
        (yae qcf)
        ya0)
      (yak (qbq (i := 1) sc.nd rfl (Or.inl rfl) (yb2 yac))
      (yae (qc7 PassesOwn.never rfl (yf6 rfl (B.of rfl) (qaa (pv 0) yac)) (qf4 rfl (qa2 (qan (i := 2) sc.nd rfl (Or.inl rfl)) (qa2 (qan (i := 3) sc.nd rfl (Or.inl rfl)) ycu)))
        (yak (qb4 (qdk (qcz (qah qez hr (qaa (pv 3) yac))))
          (yae qcf)
          ya0)
        (yak (qcb (yg6 PySem.F.plainAttrs_list PySem.F.slot_list_extend PySem.F.type_list_extend ydx (pv 1) (qaa (qah qa7 hr (qaa (pv 3) yac)) yac)))
        (yae (qb4 (qar ygi (qae qcu rfl (B.of rfl) boot_len (qaa (yc7 (ycn rfl) rfl qc0 ycm (qaa (pv 1) yac)) yac)) (qc4 qcs) (yai _))
          (yae qcf)
          ya0)))))))), ?_⟩
    refine ⟨_, rfl, _, _, _, _, rfl, .lst hL, rfl, _, rfl, iteF ?_⟩
    refine ⟨_, rfl, L, us, rfl, .inl (SqL.of hL), _, _, rfl, rfl, _, rfl, qbu (by have := hv.len; have := ok.len; omega) ?_⟩
    refine ⟨Nat.zero_le _, fun p hp => ?_⟩
    have npL : L ≠ p := yah hL hp
    refine ⟨_, rfl, L, us, rfl, SqL.of (by rw [qag npL]; exact hL), yew (xs := us) (fun i σ H2 => ∃ (o2 o3 : Option V), σ = [some (.ref L), some (.ref p), o2, o3] ∧ Same H H2 ∧ H2 p = some (.lst ((allC (hs.take i)).map V.int)))
      ⟨none, none, rfl, (Same.refl H).upd hp, yaa⟩ (fun i σ H2 _ ⟨_, _, _, h, _⟩ => SqL.of (h _ _ hL)) ?_ ?_⟩
    · rintro i x pp σ H2 hx ⟨o2, o3, rfl, s2, e2⟩ hpp
      obtain ⟨g, hg, hat⟩ := hv.get hx
      obtain ⟨ns, og⟩ := ok.ok g (List.mem_of_getElem? hg)
      have sP : Same H2 (upd H2 pp (.tup [.int i, x])) := (Same.refl H2).upd hpp
      refine ⟨pp, _, rfl, SqT.of yaa, rfl, _, _, rfl, _, _, rfl, rfl, ?_⟩
      refine ⟨_, rfl, x, g, ns, rfl, HAt.same (s2.trans sP) hat, og, fun H3 s3 => ⟨_, rfl, iteF ?_⟩⟩
      have s23 : Same H2 H3 := sP.trans s3
      refine ⟨_, rfl, .inl ⟨rfl, _, SqL.of (s23 _ _ e2)⟩, ?_⟩
      refine ⟨_, rfl, x, g, ns, rfl, HAt.same (s2.trans s23) hat, og, fun D H4 s4 hD eD => ?_⟩
      have s24 := s23.trans s4
      have hsub : ∀ h ∈ hs.take (i + 1), h ∈ hs := fun h hh => List.mem_of_mem_take hh
      have hlt : (allC (hs.take (i + 1))).length ≤ 6 := by
        have h1 := ok.clen hsub
        have h2 := ok.len
        rw [List.length_take] at h1
        omega
      refine ⟨p, D, _, _, rfl, rfl, s24 _ _ e2, eD, ?_, ?_⟩
      · rw [← List.length_append, ← List.map_append, ← ycl hg, List.length_map]
        exact Nat.le_of_lt (qc2 (by omega))
      rw [← List.map_append, ← ycl hg]
      have s5 : Same H (upd H4 p (.lst ((allC (hs.take (i + 1))).map V.int))) := (s2.trans s24).at hp
      have e5 : upd H4 p (.lst ((allC (hs.take (i + 1))).map V.int)) p = some (.lst ((allC (hs.take (i + 1))).map V.int)) := yaa
      revert s5 e5
      generalize upd H4 p (.lst ((allC (hs.take (i + 1))).map V.int)) = H5
      intro s5 e5
      refine ⟨_, rfl, p, _, rfl, e5, by omega, fun q hq => ?_⟩
      have s6 : Same H5 (upd H5 q (SetO P w q (uniq (allC (hs.take (i + 1)))))) := (Same.refl H5).upd hq
      refine ⟨q, _, rfl, yaa, _, _, rfl, rfl, _, rfl, qbu (by have := ok.few hsub; omega) ?_⟩
      exact ⟨_, _, rfl, s5.trans s6, s6 _ _ e5⟩
    · rintro σ H2 ⟨o2, o3, rfl, s2, e2⟩
      exact k _ s2
end
section
variable {P : Program} {w : World} {K : PySem.W.Frag} {mg : Str → Option Value} {base : Heap}
def qe2 : Sp := fun vs H Q _ => ∃ L us hs S, vs = [.ref L] ∧ H L = some (.lst us) ∧ HsV H us hs ∧ okHs hs S ∧ ∀ (D : Addr) (ns : List Int) (H' : Hp), Same H H' → H D = none → H' D = some (.lst (ns.map V.int)) → ns.Perm (uniq (allC hs)) → ns.Pairwise (· ≤ ·) → Q (.ref D) H'
abbrev ybz : Stmt := top 32
theorem ycv : FnScope ["harms", "cells", "harm"] ["harms"] (yab ybz) := ⟨rfl, rfl, rfl, by decide +kernel, rfl, by decide +kernel, by decide +kernel⟩
/- slots: 0 harms, 1 cells, 2 harm -/
theorem yhq (B : Bl mg) (qc0 : mg "set" = none) (yca : Has P w K mg base 6 "look_at_harms" ["thing"] ycw) (qa7 : Has P w K mg base 1 "cells_in" ["harm"] yby) (F : FnAt K mg "cells_of" ybz ["harms"]) : Has P w K mg base 7 "cells_of" ["harms"] qe2 := by
  refine Has.of F ycv (fun vs H Q E h => ?_) (fun f cdv A outer s H vs Q E hr h => ?_)
  · obtain ⟨L, us, hs, S, rfl, _⟩ := h
    rfl
  · obtain ⟨L, us, hs, S, rfl, hL, hv, ok, k⟩ := h
    have sc := ycv
    refine ⟨_, (yak (qcb (qah yca hr (qaa (pv 0) yac)))
      (yak (qbq (i := 1) sc.nd rfl (Or.inl rfl) (yb2 yac))
      (yak (qc7 PassesOwn.never rfl (qb5 (pv 0)) (qan (i := 2) sc.nd rfl (Or.inl rfl))
        (yae (qcb (yg6 PySem.F.plainAttrs_list PySem.F.slot_list_extend PySem.F.type_list_extend ydx (pv 1) (qaa (qah qa7 hr (qaa (pv 2) yac)) yac)))))
      (yae (qaw (qae (qeg rfl) rfl (B.of rfl) yel (qaa (yc7 (ycn rfl) rfl qc0 ycm (qaa (pv 1) yac)) yac))))))), ?_⟩
    refine ⟨_, rfl, L, us, hs, S, rfl, hL, hv, ok, fun H1 s1 => ?_⟩
    refine ⟨Nat.zero_le _, fun p hp => ?_⟩
    have hp0 : H p = none := s1.free hp
    have npL : L ≠ p := yah hL hp0
    refine ⟨_, rfl, L, rfl, ⟨us, SqL.of (by rw [qag npL]; exact s1 _ _ hL)⟩, yb1 (xs := us) (fun i σ H2 => ∃ (o2 : Option V), σ = [some (.ref L), some (.ref p), o2] ∧ Same H H2 ∧ H2 p = some (.lst ((allC (hs.take i)).map V.int)))
      ⟨none, rfl, s1.upd hp, yaa⟩ (fun i σ H2 _ ⟨_, _, h, _⟩ => SqL.of (h _ _ hL)) ?_ ?_⟩
    · rintro i x σ H2 hx ⟨o2, rfl, s2, e2⟩
      obtain ⟨g, hg, hat⟩ := hv.get hx
      obtain ⟨ns, og⟩ := ok.ok g (List.mem_of_getElem? hg)
      refine ⟨_, rfl, .inl ⟨rfl, _, SqL.of e2⟩, ?_⟩
      refine ⟨_, rfl, x, g, ns, rfl, HAt.same s2 hat, og, fun D H4 s4 hD eD => ?_⟩
      have hsub : ∀ h ∈ hs.take (i + 1), h ∈ hs := fun h hh => List.mem_of_mem_take hh
      have hlt : (allC (hs.take (i + 1))).length ≤ 6 := by
        have h1 := ok.clen hsub
        have h2 := ok.len
        rw [List.length_take] at h1
        omega
      refine ⟨p, D, _, _, rfl, rfl, s4 _ _ e2, eD, ?_, ?_⟩
      · rw [← List.length_append, ← List.map_append, ← ycl hg, List.length_map]
        exact Nat.le_of_lt (qc2 (by omega))
      rw [← List.map_append, ← ycl hg]
      exact ⟨_, rfl, (s2.trans s4).at hp0, yaa⟩
    · rintro σ H2 ⟨o2, rfl, s2, e2⟩
      rw [hv.len, List.take_length] at e2
      have hc := ok.clen (l := hs) (fun h hh => hh)
      have h3 := ok.len
      refine ⟨_, rfl, p, _, rfl, e2, by omega, fun q hq => ?_⟩
      have s6 : Same H2 (upd H2 q (SetO P w q (uniq (allC hs)))) := (Same.refl H2).upd hq
      refine ⟨q, _, rfl, yaa, by have := ok.few (l := hs) (fun h hh => hh); omega, fun l ns hl hpm hso => ?_⟩
      exact k l ns _ ((s2.trans s6).upd hl) ((s2.trans s6).free hl) yaa hpm hso
end
def Hm.cell (h : Hm) (i : Nat) : Int := h.c.getD i 0
def Hm.bit (h : Hm) (i : Nat) : Int := match h.r.getD i .non with | .int v => v | _ => 0
theorem qf6 {vs : List V} (h : Rest ["bit"] vs) : ∃ b, vs = [.int (b2i b)] := by
  cases h with
  | bit hb h =>
    cases h
    obtain ⟨b, rfl⟩ := hb
    exact ⟨b, rfl⟩
theorem yka {vs : List V} (h : Rest ["bit", "bit"] vs) : ∃ b c, vs = [.int (b2i b), .int (b2i c)] := by
  cases h with
  | bit hb h =>
    obtain ⟨b, rfl⟩ := hb
    obtain ⟨c, rfl⟩ := qf6 h
    exact ⟨b, c, rfl⟩
theorem rest_how {vs : List V} (h : Rest ["how"] vs) : ∃ v, vs = [v] ∧ howV v := by
  cases h with
  | how hb h =>
    cases h
    exact ⟨_, rfl, hb⟩
theorem map_str {ns ms : List Str} (h : ns.map V.str = ms.map V.str) : ns = ms := List.map_inj_right (fun _ _ e => V.str.inj e) |>.mp h
theorem qcp {h : Hm} {ns : List Str} (o : okH h ns) : (∃ a, h.c = [a]) ∨ ∃ a b, h.c = [a, b] := by
  obtain ⟨h1, h2⟩ := o.cl
  match hc : h.c with
  | [] => rw [hc] at h1; simp at h1
  | [a] => exact .inl ⟨a, rfl⟩
  | [a, b] => exact .inr ⟨a, b, rfl⟩
  | _ :: _ :: _ :: _ => rw [hc] at h2; simp at h2
theorem yh0 {h : Hm} {ns N : List Str} (o : okH h ns) (hw : KTD.datumAt h.w tabP = some (N.map V.str)) : List.replicate h.c.length ("cell" : Str) ++ ns = N := by
  have e := Option.some.inj (o.tab.symm.trans hw)
  unfold qau at e
  apply map_str
  rw [← e, List.map_append, List.map_replicate]
theorem qfc : ("cell" : Str) ≠ "bit" := by decide +kernel
theorem qhh : ("cell" : Str) ≠ "how" := by decide +kernel
theorem okH.s1 {h : Hm} {ns : List Str} (o : okH h ns) (hw : KTD.datumAt h.w tabP = some ((["cell", "bit"] : List Str).map V.str)) : ∃ a b, h.c = [a] ∧ h.r = [.int (b2i b)] := by
  have e := yh0 o hw
  have hr := o.rest
  rcases qcp o with ⟨a, hc⟩ | ⟨a, b, hc⟩
  · rw [hc] at e
    obtain ⟨_, rfl⟩ := List.cons.inj e
    obtain ⟨b, hb⟩ := qf6 hr
    exact ⟨a, b, hc, hb⟩
  · rw [hc] at e
    exact absurd (List.cons.inj (List.cons.inj e).2).1 qfc
theorem okH.c2 {h : Hm} {ns N : List Str} (o : okH h ns) (hw : KTD.datumAt h.w tabP = some ((("cell" : Str) :: ("cell" : Str) :: N : List Str).map V.str)) (hN : ∀ n ∈ ns, n ≠ "cell") : ∃ a b, h.c = [a, b] ∧ ns = N := by
  have e := yh0 o hw
  rcases qcp o with ⟨a, hc⟩ | ⟨a, b, hc⟩
  · rw [hc] at e
    have e2 := (List.cons.inj e).2
    exact absurd rfl (hN "cell" (by show ("cell" : Str) ∈ ns; rw [show ns = ("cell" : Str) :: N from e2]; simp))
  · rw [hc] at e
    exact ⟨a, b, hc, (List.cons.inj (List.cons.inj e).2).2⟩
theorem Rest.nocell {ns : List Str} {vs : List V} (h : Rest ns vs) : ∀ n ∈ ns, n ≠ "cell" := by
  induction h with
  | nil => intro n h; simp at h
  | bit _ _ ih =>
    intro n hn
    rcases List.mem_cons.mp hn with rfl | hn
    · exact qfc.symm
    · exact ih n hn
  | how _ _ ih =>
    intro n hn
    rcases List.mem_cons.mp hn with rfl | hn
    · exact qhh.symm
    · exact ih n hn
theorem okH.sTurns {h : Hm} {ns : List Str} (o : okH h ns) (hw : KTD.datumAt h.w tabP = some ((["cell", "cell", "bit"] : List Str).map V.str)) : ∃ a b x, h.c = [a, b] ∧ h.r = [.int (b2i x)] := by
  obtain ⟨a, b, hc, rfl⟩ := o.c2 hw o.rest.nocell
  obtain ⟨x, hx⟩ := qf6 o.rest
  exact ⟨a, b, x, hc, hx⟩
theorem okH.sSets {h : Hm} {ns : List Str} (o : okH h ns) (hw : KTD.datumAt h.w tabP = some ((["cell", "cell", "bit", "bit"] : List Str).map V.str)) : ∃ a b x y, h.c = [a, b] ∧ h.r = [.int (b2i x), .int (b2i y)] := by
  obtain ⟨a, b, hc, rfl⟩ := o.c2 hw o.rest.nocell
  obtain ⟨x, y, hx⟩ := yka o.rest
  exact ⟨a, b, x, y, hc, hx⟩
theorem okH.sOther {h : Hm} {ns : List Str} (o : okH h ns) (hw : KTD.datumAt h.w tabP = some ((["cell", "cell"] : List Str).map V.str)) : ∃ a b, h.c = [a, b] ∧ h.r = [] := by
  obtain ⟨a, b, hc, rfl⟩ := o.c2 hw o.rest.nocell
  have := o.rest
  cases hr : h.r with
  | nil => exact ⟨a, b, hc, rfl⟩
  | cons v l => rw [hr] at this; cases this
theorem okH.sBoth {h : Hm} {ns : List Str} (o : okH h ns) (hw : KTD.datumAt h.w tabP = some ((["cell", "cell", "how"] : List Str).map V.str)) : ∃ a b v, h.c = [a, b] ∧ h.r = [v] ∧ howV v := by
  obtain ⟨a, b, hc, rfl⟩ := o.c2 hw o.rest.nocell
  obtain ⟨v, hv, hw⟩ := rest_how o.rest
  exact ⟨a, b, v, hc, hv, hw⟩
theorem okH.at1 {h : Hm} {ns : List Str} (o : okH h ns) : (hV h)[1]? = some (.int (h.cell 0)) := by
  rcases qcp o with ⟨a, hc⟩ | ⟨a, b, hc⟩ <;> (unfold hV Hm.cell; rw [hc]; rfl)
theorem qf7 {s : Str} (h : s = "stuck" ∨ s = "slow" ∨ s = "forgets" ∨ s = "misreads" ∨ s = "nowhere") : KTD.datumAt s tabP = some ((["cell", "bit"] : List Str).map V.str) := by
  rcases h with rfl | rfl | rfl | rfl | rfl <;> decide +kernel
theorem qg5 : KTD.datumAt ("turns" : Str) tabP = some ((["cell", "cell", "bit"] : List Str).map V.str) := by decide +kernel
theorem qex {s : Str} (h : s = "sets" ∨ s = "keeps") : KTD.datumAt s tabP = some ((["cell", "cell", "bit", "bit"] : List Str).map V.str) := by
  rcases h with rfl | rfl <;> decide +kernel
theorem yez : KTD.datumAt ("other" : Str) tabP = some ((["cell", "cell"] : List Str).map V.str) := by decide +kernel
theorem yf5 : KTD.datumAt ("both" : Str) tabP = some ((["cell", "cell", "how"] : List Str).map V.str) := by decide +kernel
def yfb (cell : Int) (h : Hm) : Bool := h.w == "stuck" && h.cell 0 == cell
def qfk (hs : List Hm) (cell : Int) : Option Int := (hs.find? (yfb cell)).map (fun h => h.bit 0)
def optI : Option Int → V
  | none => .non
  | some b => .int b
def putM (hs : List Hm) (cs : List Int) (cell bit : Int) : List Int := if (qfk hs cell).isNone then cs.set cell.toNat bit else cs
theorem ye1 {α : Type} {p : α → Bool} {l : List α} {i : Nat} {x : α} (h0 : (l.take i).find? p = none) (hx : l[i]? = some x) :
    (p x = true → l.find? p = some x) ∧ (p x = false → (l.take (i + 1)).find? p = none) := by
  constructor
  · intro hp
    have hi := (List.getElem?_eq_some_iff.mp hx).1
    have e : l = l.take i ++ x :: l.drop (i + 1) := by
      have := List.getElem_cons_drop (as := l) (i := i) hi
      rw [(List.getElem?_eq_some_iff.mp hx).2] at this
      rw [this, List.take_append_drop]
    rw [e, List.find?_append, h0]
    simp [hp]
  · intro hp
    rw [List.take_add_one, hx, List.find?_append, h0]
    simp [hp]
def Oks (hs : List Hm) : Prop := ∀ h ∈ hs, ∃ ns, okH h ns
section
variable {P : Program} {w : World} {K : PySem.W.Frag} {mg : Str → Option Value} {base : Heap}
def yc1 : Sp := fun vs H Q _ => ∃ L us hs cell, vs = [.ref L, .int cell] ∧ H L = some (.lst us) ∧ HsV H us hs ∧ Oks hs ∧ Q (optI (qfk hs cell)) H
abbrev ybx : Stmt := top 34
theorem yef : FnScope ["harms", "cell", "harm"] ["harms", "cell"] (yab ybx) := ⟨rfl, rfl, rfl, by decide +kernel, rfl, by decide +kernel, by decide +kernel⟩
/- slots: 0 harms, 1 cell, 2 harm -/
theorem qg9 (F : FnAt K mg "stuck_bit" ybx ["harms", "cell"]) : Has P w K mg base 1 "stuck_bit" ["harms", "cell"] yc1 := by
  refine Has.of F yef (fun vs H Q E h => ?_) (fun f cdv A outer s H vs Q E hr h => ?_)
  · obtain ⟨L, us, hs, cell, rfl, _⟩ := h
    rfl
  · obtain ⟨L, us, hs, cell, rfl, hL, hv, ok, k⟩ := h
    have sc := yef
    refine ⟨_, (yak (qc7 PassesOwn.never rfl (qb5 (pv 0)) (qan (i := 2) sc.nd rfl (Or.inl rfl))
        (yae (qb4 (PW.pt (ydi (qar ybk (yay yav (pv 2) qac (fun _ _ => rfl)) yal (yai _)) (yc2 (qar ybk (yay yav (pv 2) qac (fun _ _ => rfl)) (pv 1) (yai _)))))
          (yae (qaw (yay yav (pv 2) qac (fun _ _ => rfl))))
          ya0)))
      (yae (qaw qb3))), ?_⟩
    refine ⟨_, rfl, L, rfl, ⟨us, SqL.of hL⟩, yb1 (xs := us) (fun i σ H2 => ∃ (o2 : Option V), σ = [some (.ref L), some (.int cell), o2] ∧ H2 = H ∧ (hs.take i).find? (yfb cell) = none)
      ⟨none, rfl, rfl, rfl⟩ (fun i σ H2 _ ⟨_, _, h, _⟩ => by subst h; exact SqL.of hL) ?_ ?_⟩
    · rintro i x σ H2 hx ⟨o2, rfl, rfl, hn⟩
      obtain ⟨g, hg, a, rfl, ha⟩ := hv.get hx
      obtain ⟨ns, og⟩ := ok g (List.mem_of_getElem? hg)
      obtain ⟨f1, f2⟩ := ye1 hn hg
      refine ⟨_, rfl, a, _, _, _, rfl, rfl, SqT.of ha, qaf 0 rfl, rfl, _, rfl, ?_⟩
      by_cases hw : g.w = "stuck"
      · refine iteB (by rw [decide_eq_true_iff]; exact congrArg V.str hw) ?_
        refine ⟨_, rfl, a, _, _, _, rfl, rfl, SqT.of ha, qaf 1 og.at1, _, rfl, rfl, _, rfl, ?_⟩
        by_cases hc : g.cell 0 = cell
        · refine iteB (by rw [decide_eq_true_iff]; exact congrArg V.int hc) ?_
          obtain ⟨c, b, ec, er⟩ := og.s1 (qf7 (.inl hw))
          refine ⟨_, rfl, a, _, _, _, rfl, rfl, SqT.of ha, qaf 2 (show (hV g)[2]? = some (.int (g.bit 0)) by unfold hV Hm.bit; rw [ec, er]; rfl), ?_⟩
          have := f1 (by unfold yfb; rw [hw, hc]; simp)
          unfold qfk at k
          rw [this] at k
          exact k
        · refine iteN (by rw [decide_eq_false_iff_not]; intro z; exact hc (V.int.inj z)) ?_
          exact ⟨_, rfl, rfl, f2 (by unfold yfb; simp [hc])⟩
      · refine iteN (by rw [decide_eq_false_iff_not]; intro z; exact hw (V.str.inj z)) ?_
        exact ⟨_, rfl, rfl, f2 (by unfold yfb; simp [hw])⟩
    · rintro σ H2 ⟨o2, rfl, rfl, hn⟩
      rw [hv.len, List.take_length] at hn
      unfold qfk at k
      rw [hn] at k
      exact k
end
def rd (cs : List Int) (c : Int) : Int := cs.getD c.toNat 0
theorem yhn {cs : List Int} {c : Int} (h0 : 0 ≤ c) (h1 : c < cs.length) : atI (cs.map V.int) c = some (.int (rd cs c)) := by
  refine ye4 h0 ?_
  have : c.toNat < cs.length := by omega
  unfold rd
  rw [List.getElem?_map, List.getD_eq_getElem?_getD, List.getElem?_eq_getElem this]
  rfl
theorem ixN_in {n : Nat} {c : Int} (h0 : 0 ≤ c) (h1 : c < n) : ixN n c = some c.toNat := by
  unfold ixN
  rw [if_pos h0, if_pos h1]
theorem HAt.upd {H : Hp} {C : Addr} {xs ys : List V} {v : V} {h : Hm} (x : HAt H v h) (hC : H C = some (.lst xs)) : HAt (upd H C (.lst ys)) v h := by
  obtain ⟨a, rfl, ha⟩ := x
  exact ⟨a, rfl, by rw [qag (fun z => by subst z; rw [hC] at ha; cases ha)]; exact ha⟩
theorem HsV.upd {H : Hp} {C : Addr} {xs ys us : List V} {hs : List Hm} (x : HsV H us hs) (hC : H C = some (.lst xs)) : HsV (L2.upd H C (.lst ys)) us hs := ⟨x.len, fun i v h a b => HAt.upd (x.at_ i v h a b) hC⟩
theorem upd_id {H : Hp} {C : Addr} {o : HO} (h : H C = some o) : upd H C o = H := by
  funext b
  by_cases e : b = C
  · subst e; rw [yaa, h]
  · rw [qag e]
theorem map_set (cs : List Int) (i : Nat) (b : Int) : (cs.map V.int).set i (.int b) = (cs.set i b).map V.int := by rw [List.map_set]
theorem yd0 (hs : List Hm) (cs : List Int) (c b : Int) : (putM hs cs c b).length = cs.length := by
  unfold putM
  split <;> simp
structure Mem (H : Hp) (L C : Addr) (us : List V) (hs : List Hm) (cs : List Int) : Prop where
  ne : L ≠ C
  hl : H L = some (.lst us)
  hv : HsV H us hs
  ok : Oks hs
  hc : H C = some (.lst (cs.map V.int))
theorem Mem.upd {H : Hp} {L C : Addr} {us : List V} {hs : List Hm} {cs : List Int} (m : Mem H L C us hs cs) (ds : List Int) : Mem (L2.upd H C (.lst (ds.map V.int))) L C us hs ds :=
  ⟨m.ne, by rw [qag m.ne]; exact m.hl, m.hv.upd m.hc, m.ok, yaa⟩
theorem Mem.same {H H' : Hp} {L C : Addr} {us : List V} {hs : List Hm} {cs : List Int} (s : Same H H') (m : Mem H L C us hs cs) : Mem H' L C us hs cs :=
  ⟨m.ne, s _ _ m.hl, m.hv.same s, m.ok, s _ _ m.hc⟩
section
variable {P : Program} {w : World} {K : PySem.W.Frag} {mg : Str → Option Value} {base : Heap}
def qia : Sp := fun vs H Q _ => ∃ L C us hs cs cell bit, vs = [.ref L, .ref C, .int cell, .int bit] ∧ Mem H L C us hs cs ∧ 0 ≤ cell ∧ cell < cs.length ∧ Q .non (upd H C (.lst ((putM hs cs cell bit).map V.int)))
abbrev qij : Stmt := top 35
theorem sc_put : FnScope ["harms", "cells", "cell", "bit"] ["harms", "cells", "cell", "bit"] (yab qij) := ⟨rfl, rfl, rfl, by decide +kernel, rfl, by decide +kernel, by decide +kernel⟩
/- slots: 0 harms, 1 cells, 2 cell, 3 bit -/
theorem ok_put (qdr : Has P w K mg base 1 "stuck_bit" ["harms", "cell"] yc1) (F : FnAt K mg "put" qij ["harms", "cells", "cell", "bit"]) : Has P w K mg base 2 "put" ["harms", "cells", "cell", "bit"] qia := by
  refine Has.of F sc_put (fun vs H Q E h => ?_) (fun f cdv A outer s H vs Q E hr h => ?_)
  · obtain ⟨L, C, us, hs, cs, cell, bit, rfl, _⟩ := h
    rfl
  · obtain ⟨L, C, us, hs, cs, cell, bit, rfl, m, h0, h1, k⟩ := h
    have sc := sc_put
    refine ⟨_, (yae (qb4 (qgo (yia (qah qdr hr (qaa (pv 0) (qaa (pv 2) yac)))))
        (yae (qj8 (pv 3) (qfv (pv 1) (pv 2) qdf)))
        ya0)), ?_⟩
    refine ⟨_, rfl, _, rfl, L, us, hs, cell, rfl, m.hl, m.hv, m.ok, ?_⟩
    unfold putM at k
    cases e : qfk hs cell with
    | none =>
      rw [e] at k
      refine ⟨_, rfl, iteT ?_⟩
      refine ⟨_, rfl, _, rfl, _, rfl, C, _, cell, _, rfl, rfl, m.hc, ixN_in h0 (by simpa using h1), ?_⟩
      rw [map_set]
      exact k
    | some b =>
      rw [e] at k
      refine ⟨_, rfl, iteF ?_⟩
      rw [if_neg (by simp), upd_id m.hc] at k
      exact k
end
end Mh
namespace Mh
open PySem L2 PyProof.Rows Mx
def stkN (hs : List Hm) (cs : List Int) : Nat → List Int
  | 0 => cs
  | n + 1 => match qfk hs n with | some b => (stkN hs cs n).set n b | none => stkN hs cs n
theorem qew (hs : List Hm) (cs : List Int) : ∀ n, (stkN hs cs n).length = cs.length
  | 0 => rfl
  | n + 1 => by
    have ih := qew hs cs n
    unfold stkN
    split <;> simp [ih]
def yfa (hs : List Hm) (cs : List Int) (h : Hm) : List Int := if h.w = "keeps" ∧ rd cs (h.cell 0) = h.bit 0 then putM hs cs (h.cell 1) (h.bit 1) else cs
theorem yht (hs : List Hm) (cs : List Int) (h : Hm) : (yfa hs cs h).length = cs.length := by
  unfold yfa
  split
  · exact yd0 _ _ _ _
  · rfl
def qhf (hs : List Hm) (l : List Hm) (cs : List Int) : List Int := l.foldl (yfa hs) cs
theorem qgn (hs : List Hm) (l : List Hm) (cs : List Int) : (qhf hs l cs).length = cs.length := by
  induction l generalizing cs with
  | nil => rfl
  | cons a l ih => exact (ih _).trans (yht _ _ _)
theorem ye2 {α β : Type} (f : β → α → β) (b : β) {l : List α} {i : Nat} {x : α} (h : l[i]? = some x) : (l.take (i + 1)).foldl f b = f ((l.take i).foldl f b) x := by
  rw [List.take_add_one, h, List.foldl_append]
  rfl
def qgg (hs : List Hm) (cs : List Int) : List Int := qhf hs hs (stkN hs cs cs.length)
theorem qct (hs : List Hm) (cs : List Int) : (qgg hs cs).length = cs.length := (qgn _ _ _).trans (qew _ _ _)
def InR (hs : List Hm) (n : Nat) : Prop := ∀ h ∈ hs, ∀ c ∈ h.c, 0 ≤ c ∧ c < n
theorem InR.c0 {hs : List Hm} {n : Nat} (r : InR hs n) {h : Hm} (hh : h ∈ hs) {ns : List Str} (o : okH h ns) : 0 ≤ h.cell 0 ∧ h.cell 0 < n := by
  refine r h hh _ ?_
  rcases qcp o with ⟨a, hc⟩ | ⟨a, b, hc⟩ <;> (unfold Hm.cell; rw [hc]; simp)
theorem InR.c1 {hs : List Hm} {n : Nat} (r : InR hs n) {h : Hm} (hh : h ∈ hs) {a b : Int} (hc : h.c = [a, b]) : 0 ≤ h.cell 1 ∧ h.cell 1 < n := by
  refine r h hh _ ?_
  unfold Hm.cell
  rw [hc]
  simp
theorem ykk {h : Hm} {a b : Int} {l : List V} (hc : h.c = [a, b]) (hr : h.r = l) : hV h = .str h.w :: .int (h.cell 0) :: .int (h.cell 1) :: l := by
  unfold hV Hm.cell
  rw [hc, hr]
  rfl
theorem dS {a b : Str} : decide (V.str a = V.str b) = decide (a = b) := by
  by_cases h : a = b
  · subst h; simp
  · rw [decide_eq_false h, decide_eq_false (fun z => h (V.str.inj z))]
theorem dI {a b : Int} : decide (V.int a = V.int b) = decide (a = b) := by
  by_cases h : a = b
  · subst h; simp
  · rw [decide_eq_false h, decide_eq_false (fun z => h (V.int.inj z))]
section
variable {P : Program} {w : World} {K : PySem.W.Frag} {mg : Str → Option Value} {base : Heap}
def qd2 : Sp := fun vs H Q _ => ∃ L C us hs cs, vs = [.ref L, .ref C] ∧ Mem H L C us hs cs ∧ InR hs cs.length ∧ cs.length ≤ 64 ∧ Q .non (upd H C (.lst ((qgg hs cs).map V.int)))
abbrev qdg : Stmt := top 36
theorem ygt : FnScope ["harms", "cells", "cell", "bit", "harm"] ["harms", "cells"] (yab qdg) := ⟨rfl, rfl, rfl, by decide +kernel, rfl, by decide +kernel, by decide +kernel⟩
/- slots: 0 harms, 1 cells, 2 cell, 3 bit, 4 harm -/
theorem qkk (B : Bl mg) (qdr : Has P w K mg base 1 "stuck_bit" ["harms", "cell"] yc1) (yi9 : Has P w K mg base 2 "put" ["harms", "cells", "cell", "bit"] qia) (F : FnAt K mg "settle" qdg ["harms", "cells"]) : Has P w K mg base 3 "settle" ["harms", "cells"] qd2 := by
  refine Has.of F ygt (fun vs H Q E h => ?_) (fun f cdv A outer s H vs Q E hr h => ?_)
  · obtain ⟨L, C, us, hs, cs, rfl, _⟩ := h
    rfl
  · obtain ⟨L, C, us, hs, cs, rfl, m, hi, hcl, k⟩ := h
    have sc := ygt
    refine ⟨_, (yak (qc7 PassesOwn.never rfl (qc5 rfl (B.of rfl) (qaa (qae qaj rfl (B.of rfl) boot_len (qaa (pv 1) yac)) yac)) (qan (i := 2) sc.nd rfl (Or.inl rfl))
        (yak (qbq (i := 3) sc.nd rfl (Or.inl rfl) (qah qdr hr (qaa (pv 0) (qaa (pv 2) yac))))
        (yae (qb4 (qgo (pc_notN (pv 3)))
          (yae (qj8 (pv 3) (qfv (pv 1) (pv 2) qdf)))
          ya0))))
      (yae (qc7 PassesOwn.never rfl (qb5 (pv 0)) (qan (i := 4) sc.nd rfl (Or.inl rfl))
        (yae (qb4 (PW.pt (ydi (qar ybk (yay yav (pv 4) qac (fun _ _ => rfl)) yal (yai _)) (yc2 (qar ybk (yay qal (pv 1) (yay yav (pv 4) qac (fun _ _ => rfl)) (fun _ _ => rfl)) (yay yav (pv 4) qac (fun _ _ => rfl)) (yai _)))))
          (yae (qcb (qah yi9 hr (yci (pv 0) (yci (pv 1) (qaa (yay yav (pv 4) qac (fun _ _ => rfl)) (qaa (yay yav (pv 4) qac (fun _ _ => rfl)) yac)))))))
          ya0))))), ?_⟩
    refine ⟨_, rfl, C, _, rfl, .inl (SqL.of m.hc), cs.length, (by rw [List.length_map]), (by omega), (by omega), yfk (n := cs.length) (fun i σ H2 => ∃ (o2 o3 : Option V), σ = [some (.ref L), some (.ref C), o2, o3, none] ∧ H2 = upd H C (.lst ((stkN hs cs i).map V.int)))
      ⟨none, none, rfl, (upd_id m.hc).symm⟩ ?_ ?_⟩
    · rintro i σ H2 hlt ⟨o2, o3, rfl, rfl⟩
      have m2 := m.upd (stkN hs cs i)
      rw [Int.zero_add]
      refine ⟨_, rfl, _, rfl, L, us, hs, i, rfl, m2.hl, m2.hv, m2.ok, ?_⟩
      cases e : qfk hs i with
      | none =>
        refine ⟨_, rfl, _, rfl, iteF ?_⟩
        exact ⟨_, _, rfl, by rw [stkN, e]⟩
      | some b =>
        refine ⟨_, rfl, _, rfl, iteT ?_⟩
        refine ⟨_, rfl, _, rfl, _, rfl, C, _, i, _, rfl, rfl, m2.hc, ixN_in (by omega) (by rw [List.length_map, qew]; omega), ?_⟩
        refine ⟨_, _, rfl, ?_⟩
        rw [show optI (some b) = V.int b from rfl, map_set, qe3, stkN, e]
        rfl
    · rintro σ H2 ⟨o2, o3, rfl, rfl⟩
      have m2 := m.upd (stkN hs cs cs.length)
      refine ⟨_, rfl, L, rfl, ⟨us, SqL.of m2.hl⟩, yb1 (xs := us) (fun i σ H2 => ∃ (o4 : Option V), σ = [some (.ref L), some (.ref C), o2, o3, o4] ∧ H2 = upd H C (.lst ((qhf hs (hs.take i) (stkN hs cs cs.length)).map V.int)))
        ⟨none, rfl, rfl⟩ (fun i σ H2 _ ⟨_, _, h⟩ => by subst h; exact SqL.of (by rw [qag m.ne]; exact m.hl)) ?_ ?_⟩
      · rintro i x σ H2 hx ⟨o4, rfl, rfl⟩
        have hlen := (qgn hs (hs.take i) (stkN hs cs cs.length)).trans (qew hs cs cs.length)
        have m3 := m.upd (qhf hs (hs.take i) (stkN hs cs cs.length))
        have step : ∀ g, hs[i]? = some g → qhf hs (hs.take (i + 1)) (stkN hs cs cs.length) = yfa hs (qhf hs (hs.take i) (stkN hs cs cs.length)) g := fun g hg => ye2 _ _ hg
        revert hlen m3 step
        generalize qhf hs (hs.take i) (stkN hs cs cs.length) = ds
        intro hlen m3 step
        obtain ⟨g, hg, a, rfl, ha⟩ := m3.hv.get hx
        have hgm := List.mem_of_getElem? hg
        obtain ⟨ns, og⟩ := m.ok g hgm
        rw [step g hg]
        unfold yfa
        refine ⟨_, rfl, a, _, _, _, rfl, rfl, SqT.of ha, qaf 0 rfl, rfl, _, rfl, ?_⟩
        rw [dS]
        by_cases hw : g.w = "keeps"
        · refine iteB (decide_eq_true hw) ?_
          obtain ⟨c1, c2, x1, x2, ec, er⟩ := og.sSets (qex (.inr hw))
          have hb0 : g.bit 0 = b2i x1 := by unfold Hm.bit; rw [er]; rfl
          have hb1 : g.bit 1 = b2i x2 := by unfold Hm.bit; rw [er]; rfl
          rw [← hb0, ← hb1] at er
          have ht := ykk ec er
          have c0 := hi.c0 hgm og
          have c1 := hi.c1 hgm ec
          rw [ht] at ha
          refine ⟨_, rfl, _, rfl, a, _, _, _, rfl, rfl, SqT.of ha, qaf 1 rfl, C, _, _, _, rfl, rfl, SqL.of m3.hc, yhn c0.1 (by omega), ?_⟩
          refine ⟨_, rfl, a, _, _, _, rfl, rfl, SqT.of ha, qaf 3 rfl, rfl, _, rfl, ?_⟩
          rw [dI]
          by_cases hb : rd ds (g.cell 0) = g.bit 0
          · refine iteB (decide_eq_true hb) ?_
            refine ⟨_, rfl, _, rfl, _, rfl, a, _, _, _, rfl, rfl, SqT.of ha, qaf 2 rfl, _, rfl, a, _, _, _, rfl, rfl, SqT.of ha, qaf 4 rfl, L, C, us, hs, ds, g.cell 1, g.bit 1, rfl, m3, c1.1, by omega, ?_⟩
            rw [qe3, if_pos ⟨hw, hb⟩]
            exact ⟨_, rfl, rfl⟩
          · refine iteN (decide_eq_false hb) ?_
            rw [if_neg (fun z => hb z.2)]
            exact ⟨_, rfl, rfl⟩
        · refine iteN (decide_eq_false hw) ?_
          rw [if_neg (fun z => hw z.1)]
          exact ⟨_, rfl, rfl⟩
      · rintro σ H2 ⟨o4, rfl, rfl⟩
        rw [m.hv.len, List.take_length]
        exact k
end
structure UpC (H : Hp) (C : Addr) (ds : List Int) (H' : Hp) : Prop where
  st : ∀ b u, b ≠ C → H b = some u → H' b = some u
  at_ : H' C = some (.lst (ds.map V.int))
theorem UpC.same {H H' H2 : Hp} {C : Addr} {ds : List Int} (u : UpC H C ds H') (s : Same H' H2) : UpC H C ds H2 := ⟨fun b o h e => s _ _ (u.st b o h e), s _ _ u.at_⟩
theorem UpC.trans {H H' H2 : Hp} {C : Addr} {ds es : List Int} (u : UpC H C ds H') (v : UpC H' C es H2) : UpC H C es H2 := ⟨fun b o h e => v.st b o h (u.st b o h e), v.at_⟩
theorem UpC.of {H H' : Hp} {C : Addr} {cs : List Int} (s : Same H H') (h : H C = some (.lst (cs.map V.int))) : UpC H C cs H' := ⟨fun b o _ e => s _ _ e, s _ _ h⟩
theorem UpC.put {H : Hp} {C : Addr} {ds : List Int} : UpC H C ds (upd H C (.lst (ds.map V.int))) := ⟨fun b o h e => by rw [qag h]; exact e, yaa⟩
theorem UpC.hat {H H' : Hp} {C : Addr} {cs ds : List Int} {v : V} {h : Hm} (u : UpC H C ds H') (hc : H C = some (.lst (cs.map V.int))) (x : HAt H v h) : HAt H' v h := by
  obtain ⟨a, rfl, ha⟩ := x
  exact ⟨a, rfl, u.st a _ (fun z => by subst z; rw [hc] at ha; cases ha) ha⟩
theorem Mem.upC {H H' : Hp} {L C : Addr} {us : List V} {hs : List Hm} {cs ds : List Int} (m : Mem H L C us hs cs) (u : UpC H C ds H') : Mem H' L C us hs ds :=
  ⟨m.ne, u.st _ _ m.ne m.hl, ⟨m.hv.len, fun i v h a b => u.hat m.hc (m.hv.at_ i v h a b)⟩, m.ok, u.at_⟩
def qju (a : Int) (h : Hm) : Bool := decide ((h.w = "nowhere" ∨ h.w = "other" ∨ h.w = "both") ∧ h.cell 0 = a)
def qfs (hs : List Hm) (a : Int) : Option Hm := hs.find? (qju a)
def OpH (H : Hp) (v : V) : Option Hm → Prop
  | none => v = .non
  | some h => HAt H v h
theorem eqS {a s : Str} : (eqV (.str a) (.str s) = true) = (s = a) := by
  show ((a == s) = true) = _
  rw [beq_iff_eq]
  exact propext eq_comm
theorem in3 {s a b c : Str} : inV (.str s) [.str a, .str b, .str c] = decide (s = a ∨ s = b ∨ s = c) := by
  unfold inV
  rw [Bool.eq_iff_iff]
  simp [eqS]
theorem in2 {s a b : Str} : inV (.str s) [.str a, .str b] = decide (s = a ∨ s = b) := by
  unfold inV
  rw [Bool.eq_iff_iff]
  simp [eqS]
section
variable {P : Program} {w : World} {K : PySem.W.Frag} {mg : Str → Option Value} {base : Heap}
def ycg : Sp := fun vs H Q _ => ∃ L us hs a, vs = [.ref L, .int a] ∧ H L = some (.lst us) ∧ HsV H us hs ∧ Oks hs ∧ ∀ v H', Same H H' → OpH H v (qfs hs a) → Q v H'
abbrev yaz : Stmt := top 37
theorem qch : FnScope ["harms", "address", "harm"] ["harms", "address"] (yab yaz) := ⟨rfl, rfl, rfl, by decide +kernel, rfl, by decide +kernel, by decide +kernel⟩
/- slots: 0 harms, 1 address, 2 harm -/
theorem qdu (F : FnAt K mg "harm_of_address" yaz ["harms", "address"]) : Has P w K mg base 1 "harm_of_address" ["harms", "address"] ycg := by
  refine Has.of F qch (fun vs H Q E h => ?_) (fun f cdv A outer s H vs Q E hr h => ?_)
  · obtain ⟨L, us, hs, a, rfl, _⟩ := h
    rfl
  · obtain ⟨L, us, hs, ad, rfl, hL, hv, ok, k⟩ := h
    have sc := qch
    refine ⟨_, (yak (qc7 PassesOwn.never rfl (qb5 (pv 0)) (qan (i := 2) sc.nd rfl (Or.inl rfl))
        (yae (qb4 (PW.pt (ydi (qar qb2 (yay yav (pv 2) qac (fun _ _ => rfl)) (yeg (qaa yal (qaa yal (qaa yal yac)))) (by with_unfolding_all rfl)) (yc2 (qar ybk (yay yav (pv 2) qac (fun _ _ => rfl)) (pv 1) (yai _)))))
          (yae (qaw (pv 2)))
          ya0)))
      (yae (qaw qb3))), ?_⟩
    refine ⟨_, rfl, L, rfl, ⟨us, SqL.of hL⟩, yb1 (xs := us) (fun i σ H2 => ∃ (o2 : Option V), σ = [some (.ref L), some (.int ad), o2] ∧ Same H H2 ∧ (hs.take i).find? (qju ad) = none)
      ⟨none, rfl, Same.refl H, rfl⟩ (fun i σ H2 _ ⟨_, _, h, _⟩ => SqL.of (h _ _ hL)) ?_ ?_⟩
    · rintro i x σ H2 hx ⟨o2, rfl, s2, hn⟩
      obtain ⟨g, hg, hat⟩ := hv.get hx
      obtain ⟨a, rfl, ha⟩ := id hat
      obtain ⟨ns, og⟩ := ok g (List.mem_of_getElem? hg)
      obtain ⟨f1, f2⟩ := ye1 hn hg
      have ha2 := s2 _ _ ha
      refine ⟨_, rfl, a, _, _, _, rfl, rfl, SqT.of ha2, qaf 0 rfl, (by show 3 ≤ sizeLine; decide), fun p hp => ⟨p, _, rfl, .inr (SqT.of yaa), rfl, rfl, _, rfl, ?_⟩⟩
      rw [in3]
      have s3 : Same H (upd H2 p (.tup [.str "nowhere", .str "other", .str "both"])) := s2.upd hp
      revert s3
      generalize upd H2 p (.tup [.str "nowhere", .str "other", .str "both"]) = H3
      intro s3
      by_cases hw : g.w = "nowhere" ∨ g.w = "other" ∨ g.w = "both"
      · refine iteD hw ?_
        refine ⟨_, rfl, a, _, _, _, rfl, rfl, SqT.of (s3 _ _ ha), qaf 1 og.at1, _, rfl, rfl, _, rfl, ?_⟩
        rw [dI]
        by_cases hc : g.cell 0 = ad
        · refine iteD hc ?_
          refine ⟨_, rfl, k _ _ s3 ?_⟩
          unfold qfs
          rw [f1 (decide_eq_true ⟨hw, hc⟩)]
          exact hat
        · refine qbu hc ?_
          exact ⟨_, rfl, s3, f2 (decide_eq_false (fun z => hc z.2))⟩
      · refine qbu hw ?_
        exact ⟨_, rfl, s3, f2 (decide_eq_false (fun z => hw z.1))⟩
    · rintro σ H2 ⟨o2, rfl, s2, hn⟩
      rw [hv.len, List.take_length] at hn
      refine k _ _ s2 ?_
      unfold qfs
      rw [hn]
      rfl
def qg1 (o : Option Hm) (a : Int) : List Int :=
  match o with
  | none => [a]
  | some h => if h.w = "nowhere" then [] else if h.w = "other" then [h.cell 1] else [a, h.cell 1]
theorem qd7 {hs : List Hm} {a : Int} {h : Hm} (e : qfs hs a = some h) : h ∈ hs ∧ (h.w = "nowhere" ∨ h.w = "other" ∨ h.w = "both") ∧ h.cell 0 = a :=
  ⟨List.mem_of_find?_eq_some e, of_decide_eq_true (List.find?_some (p := qju a) e)⟩
def qcy : Sp := fun vs H Q _ => ∃ v o a, vs = [v, .int a] ∧ OpH H v o ∧ (∀ h, o = some h → (h.w = "nowhere" ∨ h.w = "other" ∨ h.w = "both") ∧ ∃ ns, okH h ns) ∧ ∀ D H', Same H H' → H D = none → H' D = some (.lst ((qg1 o a).map V.int)) → Q (.ref D) H'
abbrev qa8 : Stmt := top 38
theorem ycx : FnScope ["harm", "address"] ["harm", "address"] (yab qa8) := ⟨rfl, rfl, rfl, by decide +kernel, rfl, by decide +kernel, by decide +kernel⟩
/- slots: 0 harm, 1 address -/
theorem qen (F : FnAt K mg "reached_cells" qa8 ["harm", "address"]) : Has P w K mg base 1 "reached_cells" ["harm", "address"] qcy := by
  refine Has.of F ycx (fun vs H Q E h => ?_) (fun f cdv A outer s H vs Q E hr h => ?_)
  · obtain ⟨v, o, a, rfl, _⟩ := h
    rfl
  · obtain ⟨v, o, ad, rfl, ho, hk, k⟩ := h
    have sc := ycx
    refine ⟨_, (yak (qb4 (qgo (yia (pv 0)))
        (yae (qaw (yb2 (qaa (pv 1) yac))))
        ya0)
      (yak (qb4 (qar ybk (yay yav (pv 0) qac (fun _ _ => rfl)) yal (yai _))
        (yae (qaw (yb2 yac)))
        ya0)
      (yak (qb4 (qar ybk (yay yav (pv 0) qac (fun _ _ => rfl)) yal (yai _))
        (yae (qaw (yb2 (qaa (yay yav (pv 0) qac (fun _ _ => rfl)) yac))))
        ya0)
      (yae (qaw (yb2 (qaa (pv 1) (qaa (yay yav (pv 0) qac (fun _ _ => rfl)) yac)))))))), ?_⟩
    cases o with
    | none =>
      cases ho
      refine ⟨_, rfl, _, rfl, iteT ?_⟩
      refine ⟨_, rfl, (by show 1 ≤ sizeLine; decide), fun p hp => ?_⟩
      exact k p _ ((Same.refl H).upd hp) hp yaa
    | some g =>
      obtain ⟨a, rfl, ha⟩ := ho
      obtain ⟨hw, ns, og⟩ := hk g rfl
      refine ⟨_, rfl, _, rfl, iteF ?_⟩
      refine ⟨_, rfl, a, _, _, _, rfl, rfl, SqT.of ha, qaf 0 rfl, rfl, _, rfl, ?_⟩
      rw [dS]
      by_cases h1 : g.w = "nowhere"
      · refine iteD h1 ?_
        refine ⟨Nat.zero_le _, fun p hp => k p _ ((Same.refl H).upd hp) hp ?_⟩
        rw [yaa]
        unfold qg1
        simp [h1]
      refine qbu h1 ?_
      refine ⟨_, rfl, a, _, _, _, rfl, rfl, SqT.of ha, qaf 0 rfl, rfl, _, rfl, ?_⟩
      rw [dS]
      by_cases h2 : g.w = "other"
      · refine iteD h2 ?_
        obtain ⟨c1, c2, ec, er⟩ := og.sOther (h2 ▸ yez)
        rw [ykk ec er] at ha
        refine ⟨_, rfl, a, _, _, _, rfl, rfl, SqT.of ha, qaf 2 rfl, (by show 1 ≤ sizeLine; decide), fun p hp => k p _ ((Same.refl H).upd hp) hp ?_⟩
        rw [yaa]
        unfold qg1
        dsimp only
        rw [if_neg h1, if_pos h2]
        rfl
      refine qbu h2 ?_
      have h3 : g.w = "both" := by
        rcases hw with h | h | h
        · exact absurd h h1
        · exact absurd h h2
        · exact h
      obtain ⟨c1, c2, v, ec, er, _⟩ := og.sBoth (h3 ▸ yf5)
      rw [ykk ec er] at ha
      refine ⟨_, rfl, _, rfl, a, _, _, _, rfl, rfl, SqT.of ha, qaf 2 rfl, (by show 2 ≤ sizeLine; decide), fun p hp => k p _ ((Same.refl H).upd hp) hp ?_⟩
      rw [yaa]
      unfold qg1
      simp [h1, h2]
end
theorem one_at {h : Hm} {a : Int} {b : Bool} (hc : h.c = [a]) (hr : h.r = [.int (b2i b)]) : hV h = [.str h.w, .int (h.cell 0), .int (h.bit 0)] := by
  unfold hV Hm.cell Hm.bit
  rw [hc, hr]
  rfl
section
variable {P : Program} {w : World} {K : PySem.W.Frag} {mg : Str → Option Value} {base : Heap}
end
theorem OpH.same {H H' : Hp} (s : Same H H') {v : V} : ∀ {o : Option Hm}, OpH H v o → OpH H' v o
  | none, h => h
  | some _, h => HAt.same s h
theorem reach_in {hs : List Hm} {n : Nat} (r : InR hs n) (ok : Oks hs) {a : Int} (h0 : 0 ≤ a) (h1 : a < n) : ∀ c ∈ qg1 (qfs hs a) a, 0 ≤ c ∧ c < n := by
  intro c hc
  unfold qg1 at hc
  cases e : qfs hs a with
  | none =>
    rw [e] at hc
    simp at hc
    subst hc
    exact ⟨h0, h1⟩
  | some h =>
    rw [e] at hc
    obtain ⟨hm, hw, _⟩ := qd7 e
    obtain ⟨ns, o⟩ := ok h hm
    dsimp only at hc
    by_cases w1 : h.w = "nowhere"
    · rw [if_pos w1] at hc; simp at hc
    rw [if_neg w1] at hc
    by_cases w2 : h.w = "other"
    · rw [if_pos w2] at hc
      obtain ⟨c1, c2, ec, _⟩ := o.sOther (w2 ▸ yez)
      simp at hc
      subst hc
      exact r.c1 hm ec
    · rw [if_neg w2] at hc
      have h3 : h.w = "both" := by
        rcases hw with h | h | h
        · exact absurd h w1
        · exact absurd h w2
        · exact h
      obtain ⟨c1, c2, v, ec, _⟩ := o.sBoth (h3 ▸ yf5)
      simp at hc
      rcases hc with rfl | rfl
      · exact ⟨h0, h1⟩
      · exact r.c1 hm ec
section
variable {P : Program} {w : World} {K : PySem.W.Frag} {mg : Str → Option Value} {base : Heap}
end
def isKept (cs : List Int) (cell : Int) (h : Hm) : Bool := decide (h.w = "keeps" ∧ h.cell 1 = cell ∧ rd cs (h.cell 0) = h.bit 0)
def qgy (hs : List Hm) (cs : List Int) (cell bit : Int) : Int := match hs.find? (isKept cs cell) with | some h => h.bit 1 | none => bit
def ygz (hs : List Hm) (cell : Int) (cs : List Int) (h : Hm) : List Int :=
  if (h.w = "turns" ∨ h.w = "sets" ∨ h.w = "keeps") ∧ h.cell 0 = cell ∧ h.bit 0 = rd cs cell then putM hs cs (h.cell 1) (if h.w = "turns" then 1 - rd cs (h.cell 1) else h.bit 1) else cs
theorem qix (hs : List Hm) (c : Int) (cs : List Int) (h : Hm) : (ygz hs c cs h).length = cs.length := by
  unfold ygz
  split
  · exact yd0 _ _ _ _
  · rfl
def actN (hs l : List Hm) (cell : Int) (cs : List Int) : List Int := l.foldl (ygz hs cell) cs
theorem qh1 (hs l : List Hm) (c : Int) (cs : List Int) : (actN hs l c cs).length = cs.length := by
  induction l generalizing cs with
  | nil => rfl
  | cons a l ih => exact (ih _).trans (qix _ _ _ _)
theorem qj6 {h : Hm} {a b : Int} {x y : Bool} (hc : h.c = [a, b]) (hr : h.r = [.int (b2i x), .int (b2i y)]) : hV h = [.str h.w, .int (h.cell 0), .int (h.cell 1), .int (h.bit 0), .int (h.bit 1)] := by
  unfold hV Hm.cell Hm.bit
  rw [hc, hr]
  rfl
theorem three_at {h : Hm} {a b : Int} {x : Bool} (hc : h.c = [a, b]) (hr : h.r = [.int (b2i x)]) : hV h = [.str h.w, .int (h.cell 0), .int (h.cell 1), .int (h.bit 0)] := by
  unfold hV Hm.cell Hm.bit
  rw [hc, hr]
  rfl
section
variable {P : Program} {w : World} {K : PySem.W.Frag} {mg : Str → Option Value} {base : Heap}
def qfi : Sp := fun vs H Q _ => ∃ L C us hs cs cell bit, vs = [.ref L, .ref C, .int cell, .int bit] ∧ Mem H L C us hs cs ∧ InR hs cs.length ∧ Q (.int (qgy hs cs cell bit)) H
abbrev qb6 : Stmt := top 42
theorem yfn : FnScope ["harms", "cells", "cell", "bit", "harm"] ["harms", "cells", "cell", "bit"] (yab qb6) := ⟨rfl, rfl, rfl, by decide +kernel, rfl, by decide +kernel, by decide +kernel⟩
/- slots: 0 harms, 1 cells, 2 cell, 3 bit, 4 harm -/
theorem yhw (F : FnAt K mg "kept_bit" qb6 ["harms", "cells", "cell", "bit"]) : Has P w K mg base 1 "kept_bit" ["harms", "cells", "cell", "bit"] qfi := by
  refine Has.of F yfn (fun vs H Q E h => ?_) (fun f cdv A outer s H vs Q E hr h => ?_)
  · obtain ⟨L, C, us, hs, cs, cell, bit, rfl, _⟩ := h
    rfl
  · obtain ⟨L, C, us, hs, cs, cell, bit, rfl, m, hi, k⟩ := h
    have sc := yfn
    refine ⟨_, (yak (qc7 PassesOwn.never rfl (qb5 (pv 0)) (qan (i := 4) sc.nd rfl (Or.inl rfl))
        (yae (qb4 (PW.pt (ydi (qar ybk (yay yav (pv 4) qac (fun _ _ => rfl)) yal (yai _)) (ydi (qar ybk (yay yav (pv 4) qac (fun _ _ => rfl)) (pv 2) (yai _)) (yc2 (qar ybk (yay qal (pv 1) (yay yav (pv 4) qac (fun _ _ => rfl)) (fun _ _ => rfl)) (yay yav (pv 4) qac (fun _ _ => rfl)) (yai _))))))
          (yae (qaw (yay yav (pv 4) qac (fun _ _ => rfl))))
          ya0)))
      (yae (qaw (pv 3)))), ?_⟩
    refine ⟨_, rfl, L, rfl, ⟨us, SqL.of m.hl⟩, yb1 (xs := us) (fun i σ H2 => ∃ (o2 : Option V), σ = [some (.ref L), some (.ref C), some (.int cell), some (.int bit), o2] ∧ H2 = H ∧ (hs.take i).find? (isKept cs cell) = none)
      ⟨none, rfl, rfl, rfl⟩ (fun i σ H2 _ ⟨_, _, h, _⟩ => by subst h; exact SqL.of m.hl) ?_ ?_⟩
    · rintro i x σ H2 hx ⟨o2, rfl, rfl, hn⟩
      obtain ⟨g, hg, a, rfl, ha⟩ := m.hv.get hx
      have hgm := List.mem_of_getElem? hg
      obtain ⟨ns, og⟩ := m.ok g hgm
      obtain ⟨f1, f2⟩ := ye1 hn hg
      refine ⟨_, rfl, a, _, _, _, rfl, rfl, SqT.of ha, qaf 0 rfl, rfl, _, rfl, ?_⟩
      rw [dS]
      by_cases hw : g.w = "keeps"
      · refine iteD hw ?_
        obtain ⟨c1, c2, x1, x2, ec, er⟩ := og.sSets (qex (.inr hw))
        rw [qj6 ec er] at ha
        have c0 := hi.c0 hgm og
        refine ⟨_, rfl, a, _, _, _, rfl, rfl, SqT.of ha, qaf 2 rfl, _, rfl, rfl, _, rfl, ?_⟩
        rw [dI]
        by_cases hc : g.cell 1 = cell
        · refine iteD hc ?_
          refine ⟨_, rfl, _, rfl, a, _, _, _, rfl, rfl, SqT.of ha, qaf 1 rfl, C, _, _, _, rfl, rfl, SqL.of m.hc, yhn c0.1 c0.2, ?_⟩
          refine ⟨_, rfl, a, _, _, _, rfl, rfl, SqT.of ha, qaf 3 rfl, rfl, _, rfl, ?_⟩
          rw [dI]
          by_cases hb : rd cs (g.cell 0) = g.bit 0
          · refine iteD hb ?_
            refine ⟨_, rfl, a, _, _, _, rfl, rfl, SqT.of ha, qaf 4 rfl, ?_⟩
            unfold qgy at k
            rw [f1 (decide_eq_true ⟨hw, hc, hb⟩)] at k
            exact k
          · refine qbu hb ?_
            exact ⟨_, rfl, rfl, f2 (decide_eq_false (fun z => hb z.2.2))⟩
        · refine qbu hc ?_
          exact ⟨_, rfl, rfl, f2 (decide_eq_false (fun z => hc z.2.1))⟩
      · refine qbu hw ?_
        exact ⟨_, rfl, rfl, f2 (decide_eq_false (fun z => hw z.1))⟩
    · rintro σ H2 ⟨o2, rfl, rfl, hn⟩
      rw [m.hv.len, List.take_length] at hn
      unfold qgy at k
      rw [hn] at k
      exact ⟨_, rfl, k⟩
def ycy : Sp := fun vs H Q _ => ∃ L C us hs cs cell, vs = [.ref L, .ref C, .int cell] ∧ Mem H L C us hs cs ∧ InR hs cs.length ∧ 0 ≤ cell ∧ cell < cs.length ∧ ∀ H', UpC H C (actN hs hs cell cs) H' → Q .non H'
abbrev ya7 : Stmt := top 43
theorem qcx : FnScope ["harms", "cells", "cell", "harm"] ["harms", "cells", "cell"] (yab ya7) := ⟨rfl, rfl, rfl, by decide +kernel, rfl, by decide +kernel, by decide +kernel⟩
/- slots: 0 harms, 1 cells, 2 cell, 3 harm -/
theorem yeo (yi9 : Has P w K mg base 2 "put" ["harms", "cells", "cell", "bit"] qia) (F : FnAt K mg "act_on_others" ya7 ["harms", "cells", "cell"]) : Has P w K mg base 3 "act_on_others" ["harms", "cells", "cell"] ycy := by
  refine Has.of F qcx (fun vs H Q E h => ?_) (fun f cdv A outer s H vs Q E hr h => ?_)
  · obtain ⟨L, C, us, hs, cs, cell, rfl, _⟩ := h
    rfl
  · obtain ⟨L, C, us, hs, cs, cell, rfl, m, hi, h0, h1, k⟩ := h
    have sc := qcx
    refine ⟨_, (yae (qc7 PassesOwn.never rfl (qb5 (pv 0)) (qan (i := 3) sc.nd rfl (Or.inl rfl))
        (yae (qb4 (PW.pt (ydi (qar qb2 (yay yav (pv 3) qac (fun _ _ => rfl)) (yeg (qaa yal (qaa yal (qaa yal yac)))) (by with_unfolding_all rfl)) (ydi (qar ybk (yay yav (pv 3) qac (fun _ _ => rfl)) (pv 2) (yai _)) (yc2 (qar ybk (yay yav (pv 3) qac (fun _ _ => rfl)) (yay qal (pv 1) (pv 2) (fun _ _ => rfl)) (yai _))))))
          (yae (qcb (qah yi9 hr (yci (pv 0) (yci (pv 1) (qaa (yay yav (pv 3) qac (fun _ _ => rfl)) (qaa (yhz (qar ybk (yay yav (pv 3) qac (fun _ _ => rfl)) yal (yai _)) (qbi qi2 qac (yay qal (pv 1) (yay yav (pv 3) qac (fun _ _ => rfl)) (fun _ _ => rfl))) (yay yav (pv 3) qac (fun _ _ => rfl))) yac)))))))
          ya0)))), ?_⟩
    refine ⟨_, rfl, L, rfl, ⟨us, SqL.of m.hl⟩, yb1 (xs := us) (fun i σ H2 => ∃ (o2 : Option V), σ = [some (.ref L), some (.ref C), some (.int cell), o2] ∧ UpC H C (actN hs (hs.take i) cell cs) H2)
      ⟨none, rfl, UpC.of (Same.refl H) m.hc⟩ (fun i σ H2 _ ⟨_, _, u⟩ => SqL.of (u.st _ _ m.ne m.hl)) ?_ ?_⟩
    · rintro i x σ H2 hx ⟨o2, rfl, u2⟩
      have m2 := m.upC u2
      have hlen := qh1 hs (hs.take i) cell cs
      have step : ∀ g, hs[i]? = some g → actN hs (hs.take (i + 1)) cell cs = ygz hs cell (actN hs (hs.take i) cell cs) g := fun g hg => ye2 _ _ hg
      revert u2 m2 hlen step
      generalize actN hs (hs.take i) cell cs = ds
      intro u2 m2 hlen step
      obtain ⟨g, hg, a, rfl, ha⟩ := m2.hv.get hx
      have hgm := List.mem_of_getElem? hg
      obtain ⟨ns, og⟩ := m.ok g hgm
      rw [step g hg]
      unfold ygz
      refine ⟨_, rfl, a, _, _, _, rfl, rfl, SqT.of ha, qaf 0 rfl, (by show 3 ≤ sizeLine; decide), fun p hp => ⟨p, _, rfl, .inr (SqT.of yaa), rfl, rfl, _, rfl, ?_⟩⟩
      rw [in3]
      have s3 : Same H2 (upd H2 p (.tup [.str "turns", .str "sets", .str "keeps"])) := (Same.refl H2).upd hp
      revert s3
      generalize upd H2 p (.tup [.str "turns", .str "sets", .str "keeps"]) = H3
      intro s3
      have u3 := u2.same s3
      have m3 := m2.same s3
      have ha3 := s3 _ _ ha
      by_cases hw : g.w = "turns" ∨ g.w = "sets" ∨ g.w = "keeps"
      · refine iteD hw ?_
        have two : ∃ a b l, g.c = [a, b] ∧ hV g = .str g.w :: .int (g.cell 0) :: .int (g.cell 1) :: .int (g.bit 0) :: l ∧ (g.w ≠ "turns" → l = [.int (g.bit 1)]) := by
          rcases hw with hw | hw
          · obtain ⟨a, b, x, ec, er⟩ := og.sTurns (hw ▸ qg5)
            exact ⟨a, b, [], ec, three_at ec er, fun z => absurd hw z⟩
          · obtain ⟨a, b, x, y, ec, er⟩ := og.sSets (qex hw)
            exact ⟨a, b, _, ec, qj6 ec er, fun _ => rfl⟩
        obtain ⟨a1, b1, l, ec, ht, hl⟩ := two
        rw [ht] at ha3
        have c1 := hi.c1 hgm ec
        refine ⟨_, rfl, a, _, _, _, rfl, rfl, SqT.of ha3, qaf 1 rfl, _, rfl, rfl, _, rfl, ?_⟩
        rw [dI]
        by_cases hc : g.cell 0 = cell
        · refine iteD hc ?_
          refine ⟨_, rfl, a, _, _, _, rfl, rfl, SqT.of ha3, qaf 3 rfl, _, rfl, _, rfl, C, _, _, _, rfl, rfl, SqL.of m3.hc, yhn h0 (by omega), rfl, _, rfl, ?_⟩
          rw [dI]
          by_cases hb : g.bit 0 = rd ds cell
          · refine iteD hb ?_
            rw [if_pos ⟨hw, hc, hb⟩]
            have fin : ∀ bit, (∃ o2, [some (V.ref L), some (.ref C), some (.int cell), some (.ref a)] = [some (V.ref L), some (.ref C), some (.int cell), o2] ∧ UpC H C (putM hs ds (g.cell 1) bit) (upd H3 C (.lst ((putM hs ds (g.cell 1) bit).map V.int)))) := fun bit => ⟨_, rfl, u3.trans UpC.put⟩
            refine ⟨_, rfl, _, rfl, _, rfl, a, _, _, _, rfl, rfl, SqT.of ha3, qaf 2 rfl, _, rfl, a, _, _, _, rfl, rfl, SqT.of ha3, qaf 0 rfl, rfl, _, rfl, ?_⟩
            rw [dS]
            by_cases ht : g.w = "turns"
            · refine iteD ht ?_
              rw [if_pos ht]
              refine ⟨_, rfl, _, rfl, a, _, _, _, rfl, rfl, SqT.of ha3, qaf 2 rfl, C, _, _, _, rfl, rfl, SqL.of m3.hc, yhn c1.1 (by omega), _, _, rfl, rfl, L, C, us, hs, ds, g.cell 1, _, rfl, m3, c1.1, by omega, ?_⟩
              exact fin _
            · refine qbu ht ?_
              rw [if_neg ht]
              rw [hl ht] at ha3
              refine ⟨_, rfl, a, _, _, _, rfl, rfl, SqT.of ha3, qaf 4 rfl, L, C, us, hs, ds, g.cell 1, _, rfl, m3, c1.1, by omega, ?_⟩
              exact fin _
          · refine qbu hb ?_
            rw [if_neg (fun z => hb z.2.2)]
            exact ⟨_, rfl, u3⟩
        · refine qbu hc ?_
          rw [if_neg (fun z => hc z.2.1)]
          exact ⟨_, rfl, u3⟩
      · refine qbu hw ?_
        rw [if_neg (fun z => hw z.1)]
        exact ⟨_, rfl, u3⟩
    · rintro σ H2 ⟨o2, rfl, u2⟩
      rw [m.hv.len, List.take_length] at u2
      exact k H2 u2
end
theorem yg5 {s : Str} {x : List V} : ∀ {D : List (Str × List V)}, KTD.datumAt s D = some x → s ∈ D.map (·.1)
  | [], h => by simp [KTD.datumAt] at h
  | (k, y) :: D, h => by
    unfold KTD.datumAt at h
    by_cases e : s = k
    · subst e; simp
    · simp [e] at h
      have := yg5 h
      simp at this ⊢
      exact .inr this
theorem words_ok : ∀ s ∈ tabP.map (·.1), PyData.canLay0 (.str s) = true := by decide +kernel
theorem Rest.fl {ns : List Str} {vs : List V} (h : Rest ns vs) : Fl vs := by
  induction h with
  | nil => exact ⟨rfl, rfl⟩
  | bit hb _ ih =>
    obtain ⟨b, rfl⟩ := hb
    exact ⟨by rw [List.all_cons]; exact ih.1, by simpa [PyData.canLayAll0, dOf, PyData.canLay0] using ih.2⟩
  | how hb _ ih =>
    have e : PyData.canLay0 (.str "and") = true ∧ PyData.canLay0 (.str "or") = true := by decide +kernel
    rcases hb with rfl | rfl
    · exact ⟨by rw [List.all_cons]; exact ih.1, by simp only [List.map_cons, PyData.canLayAll0, dOf, e.1, Bool.true_and]; exact ih.2⟩
    · exact ⟨by rw [List.all_cons]; exact ih.1, by simp only [List.map_cons, PyData.canLayAll0, dOf, e.2, Bool.true_and]; exact ih.2⟩
theorem fl_ints (l : List Int) {vs : List V} (h : Fl vs) : Fl (l.map V.int ++ vs) := by
  induction l with
  | nil => exact h
  | cons a l ih => exact ⟨by show (V.int a :: (l.map V.int ++ vs)).all yc9 = true; rw [List.all_cons]; exact ih.1, by simpa [PyData.canLayAll0, dOf, PyData.canLay0] using ih.2⟩
theorem okH.fl {h : Hm} {ns : List Str} (o : okH h ns) : Fl (hV h) := by
  have f := fl_ints h.c o.rest.fl
  unfold hV
  refine ⟨by rw [List.all_cons]; exact f.1, ?_⟩
  simp only [List.map_cons, PyData.canLayAll0, dOf, words_ok _ (yg5 o.tab), Bool.true_and]
  exact f.2
def yhy (cell bit : Int) (h : Hm) : Bool := decide (h.w = "slow" ∧ h.cell 0 = cell ∧ h.bit 0 = bit)
theorem slow_eq {h : Hm} {ns : List Str} (o : okH h ns) (cell bit : Int) : PyData.eqvAll ((hV h).map dOf) (([.str "slow", .int cell, .int bit] : List V).map dOf) = yhy cell bit h := by
  unfold yhy
  by_cases hw : h.w = "slow"
  · obtain ⟨a, b, ec, er⟩ := o.s1 (qf7 (by simp [hw]))
    rw [one_at ec er, hw, Bool.eq_iff_iff]
    simp [PyData.eqvAll, PyData.eqv, dOf]
  · rw [decide_eq_false (fun z => hw z.1)]
    unfold hV
    simp [PyData.eqvAll, PyData.eqv, dOf, hw]
theorem HsV.any {H : Hp} {us : List V} {hs : List Hm} (x : HsV H us hs) {f : V → Bool} {g : Hm → Bool} (e : ∀ h ∈ hs, ∀ v, HAt H v h → f v = g h) : us.any f = hs.any g := by
  rw [Bool.eq_iff_iff, List.any_eq_true, List.any_eq_true]
  constructor
  · rintro ⟨v, hv, hf⟩
    obtain ⟨i, hi⟩ := List.getElem?_of_mem hv
    obtain ⟨h, hh, ha⟩ := x.get hi
    exact ⟨h, List.mem_of_getElem? hh, by rw [← e h (List.mem_of_getElem? hh) v ha]; exact hf⟩
  · rintro ⟨h, hh, hg⟩
    obtain ⟨i, hi⟩ := List.getElem?_of_mem hh
    have hil : i < us.length := by rw [x.len]; exact (List.getElem?_eq_some_iff.mp hi).1
    have ha := x.at_ i _ h (List.getElem?_eq_getElem hil) hi
    exact ⟨_, List.getElem_mem hil, by rw [e h hh _ ha]; exact hg⟩
theorem HsV.tups {H : Hp} {us : List V} {hs : List Hm} (x : HsV H us hs) (ok : Oks hs) : ∀ v ∈ us, ∃ a ys, v = .ref a ∧ H a = some (.tup ys) ∧ Fl ys := by
  intro v hv
  obtain ⟨i, hi⟩ := List.getElem?_of_mem hv
  obtain ⟨h, hh, a, rfl, ha⟩ := x.get hi
  obtain ⟨ns, o⟩ := ok h (List.mem_of_getElem? hh)
  exact ⟨a, _, rfl, ha, o.fl⟩
theorem fl_slow (cell bit : Int) : Fl [.str "slow", .int cell, .int bit] := by
  have e : PyData.canLay0 (.str "slow") = true := by decide +kernel
  exact ⟨rfl, by simp only [List.map_cons, List.map_nil, PyData.canLayAll0, dOf, e]; rfl⟩
def slowB (hs : List Hm) (cs : List Int) (cell bit : Int) : Bool := decide (rd cs cell ≠ bit) && hs.any (yhy cell bit)
section
variable {P : Program} {w : World} {K : PySem.W.Frag} {mg : Str → Option Value} {base : Heap}
def yfx : Sp := fun vs H Q _ => ∃ L C us hs cs cell bit, vs = [.ref L, .ref C, .int cell, .int bit] ∧ Mem H L C us hs cs ∧ 0 ≤ cell ∧ cell < cs.length ∧ ∀ H', Same H H' → Q (.bl (slowB hs cs cell bit)) H'
abbrev qcm : Stmt := top 41
theorem yf2 : FnScope ["harms", "cells", "cell", "bit"] ["harms", "cells", "cell", "bit"] (yab qcm) := ⟨rfl, rfl, rfl, by decide +kernel, rfl, by decide +kernel, by decide +kernel⟩
/- slots: 0 harms, 1 cells, 2 cell, 3 bit -/
theorem yio (F : FnAt K mg "is_slow" qcm ["harms", "cells", "cell", "bit"]) : Has P w K mg base 1 "is_slow" ["harms", "cells", "cell", "bit"] yfx := by
  refine Has.of F yf2 (fun vs H Q E h => ?_) (fun f cdv A outer s H vs Q E hr h => ?_)
  · obtain ⟨L, C, us, hs, cs, cell, bit, rfl, _⟩ := h
    rfl
  · obtain ⟨L, C, us, hs, cs, cell, bit, rfl, m, h0, h1, k⟩ := h
    have sc := yf2
    refine ⟨_, (yae (qaw (ya6 (qat yix (yay qal (pv 1) (pv 2) (fun _ _ => rfl)) (pv 3) (yai _)) (qbw (qat (op_inT hr) (yeg (qaa yal (qaa (pv 2) (qaa (pv 3) yac)))) (pv 0) (by with_unfolding_all rfl)))))), ?_⟩
    refine ⟨_, rfl, _, rfl, C, _, _, _, rfl, rfl, SqL.of m.hc, yhn h0 h1, _, rfl, rfl, _, rfl, ?_⟩
    rw [dI]
    unfold slowB at k
    by_cases hb : rd cs cell = bit
    · refine iteN (by simp [hb]) ?_
      have := k H (Same.refl H)
      simp [hb] at this
      exact this
    · refine iteB (by simp [hb]) ?_
      refine ⟨_, rfl, _, rfl, (by show 3 ≤ sizeLine; decide), fun p hp => ⟨_, rfl, ?_⟩⟩
      have s2 : Same H (upd H p (.tup [.str "slow", .int cell, .int bit])) := (Same.refl H).upd hp
      have e2 : upd H p (.tup [.str "slow", .int cell, .int bit]) p = some (.tup [.str "slow", .int cell, .int bit]) := yaa
      revert s2 e2
      generalize upd H p (.tup [.str "slow", .int cell, .int bit]) = H2
      intro s2 e2
      have m2 := m.same s2
      refine ⟨p, _, L, us, rfl, e2, fl_slow _ _, rfl, m2.hl, m2.hv.tups m2.ok, ?_⟩
      rw [m2.hv.any (g := yhy cell bit) (fun h hh v hv => by
        obtain ⟨a, rfl, ha⟩ := hv
        obtain ⟨ns, o⟩ := m2.ok h hh
        unfold tEq
        dsimp only
        rw [ha]
        exact slow_eq o cell bit)]
      have := k H2 s2
      simp [hb] at this
      exact this
end
def qg8 (hs : List Hm) (cs : List Int) (cell bit : Int) : List Int :=
  if slowB hs cs cell bit = true then cs
  else if rd (putM hs cs cell (qgy hs cs cell bit)) cell = rd cs cell then putM hs cs cell (qgy hs cs cell bit)
  else actN hs hs cell (putM hs cs cell (qgy hs cs cell bit))
theorem yis (hs : List Hm) (cs : List Int) (c b : Int) : (qg8 hs cs c b).length = cs.length := by
  unfold qg8
  split
  · rfl
  · split
    · exact yd0 _ _ _ _
    · exact (qh1 _ _ _ _).trans (yd0 _ _ _ _)
def ygb (hs : List Hm) (bit : Int) (l cs : List Int) : List Int := l.foldl (fun cs c => qg8 hs cs c bit) cs
theorem qhd (hs : List Hm) (b : Int) (l cs : List Int) : (ygb hs b l cs).length = cs.length := by
  induction l generalizing cs with
  | nil => rfl
  | cons a l ih => exact (ih _).trans (yis _ _ _ _)
def qhk (hs : List Hm) (cs : List Int) (a bit : Int) : List Int := ygb hs bit (qg1 (qfs hs a) a) cs
section
variable {P : Program} {w : World} {K : PySem.W.Frag} {mg : Str → Option Value} {base : Heap}
def yd3 : Sp := fun vs H Q _ => ∃ L C us hs cs cell bit, vs = [.ref L, .ref C, .int cell, .int bit] ∧ Mem H L C us hs cs ∧ InR hs cs.length ∧ 0 ≤ cell ∧ cell < cs.length ∧ ∀ H', UpC H C (qg8 hs cs cell bit) H' → Q .non H'
abbrev qbo : Stmt := top 44
theorem qd0 : FnScope ["harms", "cells", "cell", "bit", "held"] ["harms", "cells", "cell", "bit"] (yab qbo) := ⟨rfl, rfl, rfl, by decide +kernel, rfl, by decide +kernel, by decide +kernel⟩
/- slots: 0 harms, 1 cells, 2 cell, 3 bit, 4 held -/
theorem qgc (qj3 : Has P w K mg base 1 "is_slow" ["harms", "cells", "cell", "bit"] yfx) (yi9 : Has P w K mg base 2 "put" ["harms", "cells", "cell", "bit"] qia) (qiv : Has P w K mg base 1 "kept_bit" ["harms", "cells", "cell", "bit"] qfi) (qfh : Has P w K mg base 3 "act_on_others" ["harms", "cells", "cell"] ycy) (F : FnAt K mg "write_cell" qbo ["harms", "cells", "cell", "bit"]) : Has P w K mg base 4 "write_cell" ["harms", "cells", "cell", "bit"] yd3 := by
  refine Has.of F qd0 (fun vs H Q E h => ?_) (fun f cdv A outer s H vs Q E hr h => ?_)
  · obtain ⟨L, C, us, hs, cs, cell, bit, rfl, _⟩ := h
    rfl
  · obtain ⟨L, C, us, hs, cs, cell, bit, rfl, m, hi, h0, h1, k⟩ := h
    have sc := qd0
    refine ⟨_, (yak (qb4 (qcz (qah qj3 hr (yci (pv 0) (yci (pv 1) (yci (pv 2) (yci (pv 3) yac))))))
        (yae ps_retN)
        ya0)
      (yak (qbq (i := 4) sc.nd rfl (Or.inl rfl) (yay qal (pv 1) (pv 2) (fun _ _ => rfl)))
      (yak (qcb (qah yi9 hr (yci (pv 0) (yci (pv 1) (yci (pv 2) (qdw (qah qiv hr (yci (pv 0) (yci (pv 1) (yci (pv 2) (yci (pv 3) yac))))) yac))))))
      (yae (qb4 (qar yix (yay qal (pv 1) (pv 2) (fun _ _ => rfl)) (pv 4) (yai _))
        (yae (qcb (qah qfh hr (qaa (pv 0) (qaa (pv 1) (qaa (pv 2) yac))))))
        ya0))))), ?_⟩
    refine ⟨_, rfl, _, rfl, _, rfl, _, rfl, L, C, us, hs, cs, cell, bit, rfl, m, h0, h1, fun H1 s1 => ⟨_, rfl, ?_⟩⟩
    unfold qg8 at k
    by_cases hsl : slowB hs cs cell bit = true
    · refine iteB hsl ?_
      rw [if_pos hsl] at k
      exact k H1 (UpC.of s1 m.hc)
    refine iteN (by simpa using hsl) ?_
    rw [if_neg hsl] at k
    have m1 := m.same s1
    refine ⟨_, rfl, _, rfl, C, _, _, _, rfl, rfl, SqL.of m1.hc, yhn h0 h1, ?_⟩
    refine ⟨_, rfl, _, rfl, _, rfl, _, rfl, _, rfl, _, rfl, _, rfl, L, C, us, hs, cs, cell, bit, rfl, m1, hi, ?_⟩
    refine ⟨L, C, us, hs, cs, cell, _, rfl, m1, h0, h1, ?_⟩
    have hl := yd0 hs cs cell (qgy hs cs cell bit)
    revert k hl
    generalize putM hs cs cell (qgy hs cs cell bit) = ds
    intro k hl
    have u2 : UpC H1 C ds (upd H1 C (.lst (ds.map V.int))) := UpC.put
    revert u2
    generalize upd H1 C (.lst (ds.map V.int)) = H2
    intro u2
    have u : UpC H C ds H2 := (UpC.of s1 m.hc).trans u2
    have m2 := m.upC u
    refine ⟨_, rfl, _, rfl, C, _, _, _, rfl, rfl, SqL.of m2.hc, yhn h0 (by omega), _, rfl, rfl, _, rfl, ?_⟩
    rw [dI]
    by_cases hb : rd ds cell = rd cs cell
    · refine iteN (by simp [hb]) ?_
      rw [if_pos hb] at k
      exact k H2 u
    · refine iteB (by simp [hb]) ?_
      rw [if_neg hb] at k
      refine ⟨_, rfl, _, rfl, _, rfl, L, C, us, hs, ds, cell, rfl, m2, by rw [hl]; exact hi, h0, by omega, fun H3 u3 => ?_⟩
      exact k H3 (u.trans u3)
def qcw : Sp := fun vs H Q _ => ∃ L C us hs cs a bit, vs = [.ref L, .ref C, .int a, .int bit] ∧ Mem H L C us hs cs ∧ InR hs cs.length ∧ 0 ≤ a ∧ a < cs.length ∧ ∀ H', UpC H C (qhk hs cs a bit) H' → Q .non H'
abbrev qb7 : Stmt := top 45
theorem qe7 : FnScope ["harms", "cells", "address", "bit", "cell"] ["harms", "cells", "address", "bit"] (yab qb7) := ⟨rfl, rfl, rfl, by decide +kernel, rfl, by decide +kernel, by decide +kernel⟩
/- slots: 0 harms, 1 cells, 2 address, 3 bit, 4 cell -/
theorem qhj (yd8 : Has P w K mg base 1 "harm_of_address" ["harms", "address"] ycg) (ye8 : Has P w K mg base 1 "reached_cells" ["harm", "address"] qcy) (yg3 : Has P w K mg base 4 "write_cell" ["harms", "cells", "cell", "bit"] yd3) (F : FnAt K mg "write_at" qb7 ["harms", "cells", "address", "bit"]) : Has P w K mg base 5 "write_at" ["harms", "cells", "address", "bit"] qcw := by
  refine Has.of F qe7 (fun vs H Q E h => ?_) (fun f cdv A outer s H vs Q E hr h => ?_)
  · obtain ⟨L, C, us, hs, cs, a, bit, rfl, _⟩ := h
    rfl
  · obtain ⟨L, C, us, hs, cs, ad, bit, rfl, m, hi, h0, h1, k⟩ := h
    have sc := qe7
    refine ⟨_, (yae (qc7 PassesOwn.never rfl (qb5 (qah ye8 hr (qaa (qah yd8 hr (qaa (pv 0) (qaa (pv 2) yac))) (qaa (pv 2) yac)))) (qan (i := 4) sc.nd rfl (Or.inl rfl))
        (yae (qcb (qah yg3 hr (yci (pv 0) (yci (pv 1) (yci (pv 4) (yci (pv 3) yac))))))))), ?_⟩
    refine ⟨_, rfl, _, rfl, L, us, hs, ad, rfl, m.hl, m.hv, m.ok, fun v H1 s1 hv => ?_⟩
    have kp : ∀ h, qfs hs ad = some h → (h.w = "nowhere" ∨ h.w = "other" ∨ h.w = "both") ∧ ∃ ns, okH h ns := fun h e => ⟨(qd7 e).2.1, m.ok h (qd7 e).1⟩
    refine ⟨_, rfl, v, qfs hs ad, ad, rfl, hv.same s1, kp, fun D H3 s3 hD eD => ?_⟩
    have hD0 : H D = none := s1.free hD
    have nCD : C ≠ D := yah m.hc hD0
    have hin := reach_in hi m.ok h0 h1
    unfold qhk at k
    revert k hin eD
    generalize hrc : qg1 (qfs hs ad) ad = rc
    intro k eD hin
    refine ⟨D, rfl, ⟨_, SqL.of eD⟩, yb1 (xs := rc.map V.int) (fun i σ H4 => ∃ (o5 : Option V), σ = [some (.ref L), some (.ref C), some (.int ad), some (.int bit), o5] ∧ UpC H C (ygb hs bit (rc.take i) cs) H4 ∧ H4 D = some (.lst (rc.map V.int)))
      ⟨none, rfl, UpC.of (s1.trans s3) m.hc, eD⟩ (fun i σ H4 _ ⟨_, _, _, h⟩ => SqL.of h) ?_ ?_⟩
    · rintro i x σ H4 hx ⟨o5, rfl, u4, d4⟩
      obtain ⟨c, hc, rfl⟩ := ycs hx
      have hci := hin c (List.mem_of_getElem? hc)
      have m4 := m.upC u4
      have hl := qhd hs bit (rc.take i) cs
      refine ⟨_, rfl, _, rfl, _, rfl, _, rfl, L, C, us, hs, _, c, bit, rfl, m4, by rw [hl]; exact hi, hci.1, by rw [hl]; exact hci.2, fun H5 u5 => ?_⟩
      refine ⟨_, rfl, ?_, u5.st D _ nCD.symm d4⟩
      unfold ygb
      rw [ye2 _ _ hc]
      exact u4.trans u5
    · rintro σ H4 ⟨o5, rfl, u4, d4⟩
      rw [List.length_map, List.take_length] at u4
      exact k H4 u4
end
def bits (cs : List Int) : Prop := ∀ c ∈ cs, ∃ b, c = b2i b
section
variable {P : Program} {w : World} {K : PySem.W.Frag} {mg : Str → Option Value} {base : Heap}
def qf2 : Sp := fun vs H Q _ => ∃ n : Int, vs = [.int n] ∧ 1 ≤ n ∧ n ≤ 64 ∧ Q (.bl true) H
abbrev ycb : Stmt := top 47
theorem qdc : FnScope ["thing"] ["thing"] (yab ycb) := ⟨rfl, rfl, rfl, by decide +kernel, rfl, by decide +kernel, by decide +kernel⟩
/- slots: 0 thing -/
theorem qin (qbf : ∃ t, mg "MOST_CELLS" = some (.int 64 t)) (yat : Has P w K mg base 1 "is_whole" ["thing"] ycd) (F : FnAt K mg "is_size" ycb ["thing"]) : Has P w K mg base 2 "is_size" ["thing"] qf2 := by
  refine Has.of F qdc (fun vs H Q E h => ?_) (fun f cdv A outer s H vs Q E hr h => ?_)
  · obtain ⟨x, rfl, _⟩ := h
    rfl
  · obtain ⟨x, rfl, h0, h1, k⟩ := h
    have sc := qdc
    refine ⟨_, (yae (qaw (ya6 (qah yat hr (qaa (pv 0) yac)) (ya6 (qat ygk (pv 0) qac (yai _)) (qbw (qat op_le (pv 0) (qc4 qbf) (yai _))))))), ?_⟩
    refine ⟨_, rfl, x, rfl, _, rfl, iteT ?_⟩
    refine ⟨_, rfl, _, _, rfl, rfl, _, rfl, iteD (by omega) ?_⟩
    refine ⟨_, rfl, _, _, rfl, rfl, ?_⟩
    show Q (.bl (decide (x ≤ 64))) H
    rw [decide_eq_true h1]
    exact k
def yc6 : Sp := fun vs H Q _ => ∃ C cs, vs = [.ref C, .int (cs.length : Nat)] ∧ H C = some (.lst (cs.map V.int)) ∧ bits cs ∧ cs.length ≤ 64 ∧ ∀ H', Same H H' → Q (.bl true) H'
abbrev qa5 : Stmt := top 48
theorem qbt : FnScope ["thing", "size"] ["thing", "size"] (yab qa5) := ⟨rfl, rfl, rfl, by decide +kernel, rfl, by decide +kernel, by decide +kernel⟩
/- slots: 0 thing, 1 size -/
theorem yfe (B : Bl mg) (yem : mg "all" = none) (qbr : Has P w K mg base 2 "is_bit" ["thing"] qd1) (F : FnAt K mg "are_contents" qa5 ["thing", "size"]) : Has P w K mg base 3 "are_contents" ["thing", "size"] yc6 := by
  refine Has.of F qbt (fun vs H Q E h => ?_) (fun f cdv A outer s H vs Q E hr h => ?_)
  · obtain ⟨C, cs, rfl, _⟩ := h
    rfl
  · obtain ⟨C, cs, rfl, hC, hb, hl, k⟩ := h
    have sc := qbt
    refine ⟨_, (yae (qaw (ya6 (qae qba rfl (B.of rfl) boot_isinstance (qaa (pv 0) (qaa (ybm (v := .ty "list") rfl (B.of rfl) boot_list rfl) yac))) (ya6 (qat ybk (qae qaj rfl (B.of rfl) boot_len (qaa (pv 0) yac)) (pv 1) (yai _)) (qbw (qae (ydv rfl) rfl yem qdx (qaa (qc1 rfl (qbl rfl) (M := ["part"]) (ix := [none]) (qb5 (pv 0)) (fun _ _ _ _ => (qan (i := 0) (show List.Nodup (["part"] : List Str) by decide +kernel) rfl (Or.inl rfl))) (fun _ _ _ _ => qd8) (fun _ _ _ _ => (qah qbr hr (qaa (pv 0) yac)))) yac))))))), ?_⟩
    refine ⟨_, rfl, _, _, _, _, rfl, .lst hC, rfl, _, rfl, iteT ?_⟩
    refine ⟨_, rfl, C, _, rfl, .inl (SqL.of hC), _, rfl, rfl, _, rfl, iteD (by rw [List.length_map]) ?_⟩
    refine ⟨_, rfl, C, rfl, ⟨_, SqL.of hC⟩, fun D hD => yds (n := cs.length) (fun i H' => Same H H' ∧ H' D = some (.lst ((List.replicate i true).map V.bl))) ⟨(Same.refl H).upd hD, yaa⟩ ?_ ?_⟩
    · rintro H3 ⟨s3, e3⟩
      refine ⟨⟨_, SqL.of (s3 _ _ hC), by simp⟩, ?_⟩
      refine ⟨D, _, rfl, e3, ?_⟩
      rw [show (List.replicate cs.length true).all id = true by simp]
      exact k _ s3
    · rintro i H3 hi ⟨s3, e3⟩
      refine ⟨⟨_, _, SqL.of (s3 _ _ hC), by rw [List.getElem?_map, List.getElem?_eq_getElem hi]; rfl⟩, ?_⟩
      rintro x H4 ⟨rfl, hx⟩
      obtain ⟨c, hc, rfl⟩ := ycs (hx _ (SqL.of (s3 _ _ hC)))
      obtain ⟨b, rfl⟩ := hb c (List.mem_of_getElem? hc)
      refine ⟨qbc.set (qbc.refl _) rfl, yes ?_⟩
      refine ⟨_, rfl, b, rfl, fun H5 s5 => ?_⟩
      refine ⟨_, s5 _ _ e3, qc2 (by rw [List.length_map, List.length_replicate]; omega), (s3.trans s5).at hD, ?_⟩
      rw [yaa, List.replicate_succ', List.map_append]; rfl
def qbg : Sp := fun vs H Q _ => ∃ L us hs S C cs, vs = [.int (cs.length : Nat), .ref L, .ref C] ∧ H L = some (.lst us) ∧ HsV H us hs ∧ okHs hs S ∧ InR hs cs.length ∧ H C = some (.lst (cs.map V.int)) ∧ bits cs ∧ 1 ≤ cs.length ∧ cs.length ≤ 64 ∧ ∀ H', Same H H' → Q .non H'
abbrev qax : Stmt := top 49
theorem ybf : FnScope ["size", "harms", "contents", "cells"] ["size", "harms", "contents"] (yab qax) := ⟨rfl, rfl, rfl, by decide +kernel, rfl, by decide +kernel, by decide +kernel⟩
/- slots: 0 size, 1 harms, 2 contents, 3 cells -/
theorem yd9 (B : Bl mg) (qd9 : Has P w K mg base 7 "cells_of" ["harms"] qe2) (qfa : Has P w K mg base 2 "is_size" ["thing"] qf2) (ycj : Has P w K mg base 3 "are_contents" ["thing", "size"] yc6) (F : FnAt K mg "look_at_memory" qax ["size", "harms", "contents"]) : Has P w K mg base 8 "look_at_memory" ["size", "harms", "contents"] qbg := by
  refine Has.of F ybf (fun vs H Q E h => ?_) (fun f cdv A outer s H vs Q E hr h => ?_)
  · obtain ⟨L, us, hs, S, C, cs, rfl, _⟩ := h
    rfl
  · obtain ⟨L, us, hs, S, C, cs, rfl, hL, hv, ok, hi, hC, hb, hl1, hl2, k⟩ := h
    have sc := ybf
    refine ⟨_, (yak (qbq (i := 3) sc.nd rfl (Or.inl rfl) (qah qd9 hr (qaa (pv 1) yac)))
      (yak (qb4 (qdk (qcz (qah qfa hr (qaa (pv 0) yac))))
        (yae qcf)
        ya0)
      (yak (qb4 (PW.pt (ydi (qar ygi (qae qaj rfl (B.of rfl) boot_len (qaa (pv 3) yac)) qac (yai _)) (yc2 (qar ygk (yay qal (pv 3) (qhu qe5 qac) (fun _ _ => rfl)) (pv 0) (yai _)))))
        (yae qcf)
        ya0)
      (yae (qb4 (qdk (qcz (qah ycj hr (qaa (pv 2) (qaa (pv 0) yac)))))
        (yae qcf)
        ya0))))), ?_⟩
    refine ⟨_, rfl, L, us, hs, S, rfl, hL, hv, ok, fun D ns H1 s1 hD eD hpm hso => ?_⟩
    refine ⟨_, rfl, _, rfl, by omega, by omega, _, rfl, iteF ?_⟩
    refine ⟨_, rfl, D, _, rfl, .inl (SqL.of eD), _, _, rfl, rfl, _, rfl, ?_⟩
    have fin : ∀ (b : Bool), b = true → if (!b) = true then False else True := by intro b hb; subst hb; simp
    by_cases hn : 0 < ns.length
    · refine iteD (by rw [List.length_map]; omega) ?_
      obtain ⟨x, hx⟩ : ∃ x, ns = ns.dropLast ++ [x] := ⟨ns.getLast (by intro z; rw [z] at hn; simp at hn), (List.dropLast_concat_getLast _).symm⟩
      have hxm : x ∈ allC hs := (qes _ x).mp (hpm.mem_iff.mp (by rw [hx]; simp))
      have hx2 : x < cs.length := by
        unfold allC at hxm
        obtain ⟨h, hh, hc⟩ := List.mem_flatMap.mp hxm
        exact (hi h hh x hc).2
      refine ⟨_, rfl, _, rfl, D, _, _, _, rfl, rfl, SqL.of eD, (show atI (ns.map V.int) (-1) = some (.int x) by rw [hx, List.map_append]; exact yib _ _), _, rfl, _, _, rfl, rfl, _, rfl, qbu (by omega) ?_⟩
      refine ⟨_, rfl, _, rfl, C, cs, rfl, s1 _ _ hC, hb, hl2, fun H2 s2 => ⟨_, rfl, iteF ?_⟩⟩
      exact k _ (s1.trans s2)
    · refine qbu (by rw [List.length_map]; omega) ?_
      refine ⟨_, rfl, _, rfl, C, cs, rfl, s1 _ _ hC, hb, hl2, fun H2 s2 => ⟨_, rfl, iteF ?_⟩⟩
      exact k _ (s1.trans s2)
end
end Mh
set_option maxHeartbeats 4000000
namespace Mh
open PySem L2 PyProof.Rows Mx
def Dig (ds zs : List Int) : Prop := ds.length = zs.length ∧ ∀ (i : Nat) d z, ds[i]? = some d → zs[i]? = some z → 0 ≤ d ∧ d < z
theorem Dig.get {ds zs : List Int} (h : Dig ds zs) {i : Nat} {z : Int} (hz : zs[i]? = some z) : ∃ d, ds[i]? = some d ∧ 0 ≤ d ∧ d < z := by
  have hi : i < ds.length := by rw [h.1]; exact (List.getElem?_eq_some_iff.mp hz).1
  exact ⟨ds[i], by simp [hi], h.2 i _ z (by simp [hi]) hz⟩
theorem qj5 {ds : List Int} {i : Nat} {v : V} (h : (ds.map V.int)[i]? = some v) : ∃ d, ds[i]? = some d ∧ v = .int d := ycs h
theorem qbd {ds : List Int} {i : Nat} {d : Int} (h : ds[i]? = some d) : (ds.map V.int)[i]? = some (.int d) := by rw [List.getElem?_map, h]; rfl
section
variable {P : Program} {w : World} {K : PySem.W.Frag} {mg : Str → Option Value} {base : Heap}
def ye0 : Sp := fun vs H Q _ => ∃ c t a zs, vs = [.int c, .int t, .ref a] ∧ H a = some (.lst (zs.map V.int)) ∧ zs.length ≤ 100 ∧ (∀ z ∈ zs, 0 < z ∧ z ≤ 1000) ∧ 0 ≤ t ∧ t ≤ 1000000 ∧
  ∀ p ds H', Same H H' → H p = none → H' p = some (.lst (ds.map V.int)) → Dig ds zs → Q (.ref p) H'
abbrev qbh : Stmt := top 54
theorem ydj : FnScope ["_law_cell", "_law_turn", "_law_sizes", "_law_number", "_law_wide", "_law_seed", "_law_found", "_law_k", "_law_size"] ["_law_cell", "_law_turn", "_law_sizes"] (yab qbh) := ⟨rfl, rfl, rfl, by decide +kernel, rfl, by decide +kernel, by decide +kernel⟩
/- slots: 0 _law_cell, 1 _law_turn, 2 _law_sizes, 3 _law_number, 4 _law_wide, 5 _law_seed, 6 _law_found, 7 _law_k, 8 _law_size -/
theorem qi4 (B : Bl mg) (F : FnAt K mg "_law_digits" qbh ["_law_cell", "_law_turn", "_law_sizes"]) : Has P w K mg base 1 "_law_digits" ["_law_cell", "_law_turn", "_law_sizes"] ye0 := by
  refine Has.of F ydj (fun vs H Q E h => ?_) (fun f cdv A outer s H vs Q E hr h => ?_)
  · obtain ⟨c, t, a, zs, rfl, _⟩ := h
    rfl
  · obtain ⟨c, t, a, zs, rfl, ha, hl, hz, ht0, ht1, k⟩ := h
    have sc := ydj
    refine ⟨_, (yak (qbq (i := 3) sc.nd rfl (Or.inl rfl) (qae call_abs rfl (B.of rfl) boot_abs (qaa (pv 0) yac)))
      (yak (qbq (i := 4) sc.nd rfl (Or.inl rfl) (qat ygk (pv 3) (qbi qgz qac qac) (yai _)))
      (yak (qbq (i := 5) sc.nd rfl (Or.inl rfl) (qbi yb8 (qbi qc3 (pv 3) qac) (qbi ygq qac (pv 1))))
      (yak (qbq (i := 6) sc.nd rfl (Or.inl rfl) (yb2 yac))
      (yak (qc7 PassesOwn.never rfl (yf6 rfl (B.of rfl) (qaa (pv 2) yac)) (qf4 rfl (qa2 (qan (i := 7) sc.nd rfl (Or.inl rfl)) (qa2 (qan (i := 8) sc.nd rfl (Or.inl rfl)) ycu)))
        (yae (qb4 (PW.pt (ydi (qcz (pv 4)) (yc2 (qar ygi (pv 3) qac (yai _)))))
          (yak (qcb (yg6 PySem.F.plainAttrs_list PySem.F.slot_list_append PySem.F.type_list_append yfj (pv 6) (qaa (qbi qc3 (pv 3) (pv 8)) yac)))
          (yae (qbq (i := 3) sc.nd rfl (Or.inl rfl) (qbi qj0 (pv 3) (pv 8)))))
          (yak (qbq (i := 5) sc.nd rfl (Or.inl rfl) (qbi qc3 (qbi qgz (qbi yb8 (pv 5) (qbi ygq qac (qbi yb8 (pv 7) qac))) qac) qac))
          (yae (qcb (yg6 PySem.F.plainAttrs_list PySem.F.slot_list_append PySem.F.type_list_append yfj (pv 6) (qaa (qbi qc3 (qbi qj0 (pv 5) qac) (pv 8)) yac))))))))
      (yae (qaw (pv 6)))))))), ?_⟩
    refine ⟨_, rfl, c, rfl, ?_⟩
    refine ⟨_, rfl, 10, 18, rfl, rfl, ⟨by decide, by decide, by decide⟩, _, _, rfl, rfl, ?_⟩
    refine ⟨_, rfl, _, _, rfl, rfl, (by show (0 : Int) < 2147483647; decide), _, rfl, _, _, rfl, rfl, .inl ⟨by decide, by decide⟩, _, _, rfl, rfl, ?_⟩
    refine ⟨Nat.zero_le _, fun p hp => ?_⟩
    generalize hnum : (if c < 0 then -c else c) = num
    generalize hwd : decide ((10 : Int) ^ (18 : Int).toNat ≤ num) = wd
    have hs0 : 0 ≤ num % 2147483647 + 7919 * t := by have := Int.emod_nonneg num (show (2147483647 : Int) ≠ 0 by decide); omega
    have hs1 : num % 2147483647 + 7919 * t < 2 ^ 40 := by have := Int.emod_lt_of_pos num (show (0 : Int) < 2147483647 by decide); omega
    refine ⟨_, rfl, a, _, rfl, SqL.of (by rw [qag (yah ha hp)]; exact ha), yew (xs := zs.map V.int) (fun i σ H2 => ∃ (nu seed : Int) (ds : List Int) (q1 q2 : Option V), σ = [some (.int c), some (.int t), some (.ref a), some (.int nu), some (.bl wd), some (.int seed), some (.ref p), q1, q2] ∧
      Same H H2 ∧ H2 p = some (.lst (ds.map V.int)) ∧ ds.length = i ∧ (∀ (j : Nat) d z, ds[j]? = some d → zs[j]? = some z → 0 ≤ d ∧ d < z) ∧ 0 ≤ seed ∧ seed < 2 ^ 40) ?_ (fun i σ H2 _ ⟨_, _, _, _, _, _, s2, _⟩ => SqL.of (s2 _ _ ha)) ?_ ?_⟩
    · exact ⟨num, _, [], none, none, by rw [← hwd]; rfl, (Same.refl H).upd hp, yaa, rfl, fun j d z h => by simp at h, hs0, hs1⟩
    · rintro i x pp σ H2 hx ⟨nu, seed, ds, q1, q2, rfl, s2, hp2, hln, hds, hse0, hse1⟩ hpp
      obtain ⟨z, hzi, rfl⟩ := qj5 hx
      obtain ⟨hz0, hz1⟩ := hz z (List.mem_of_getElem? hzi)
      have hil : i < zs.length := (List.getElem?_eq_some_iff.mp hzi).1
      have s3 : Same H (upd H2 pp (.tup [.int i, .int z])) := s2.upd hpp
      have hp3 : upd H2 pp (.tup [.int i, .int z]) p = some (.lst (ds.map V.int)) := by rw [qag (yah hp2 hpp)]; exact hp2
      have fin : ∀ (d : Int), 0 ≤ d → d < z → ∀ (j : Nat) d' z', (ds ++ [d])[j]? = some d' → zs[j]? = some z' → 0 ≤ d' ∧ d' < z' := fun d h0 h1 j d' z' hj hj2 => by
        by_cases hlt : j < ds.length
        · rw [List.getElem?_append_left hlt] at hj
          exact hds j d' z' hj hj2
        · rw [List.getElem?_append_right (by omega)] at hj
          have hj0 : j - ds.length = 0 := by
            cases q : j - ds.length with
            | zero => rfl
            | succ n => rw [q] at hj; simp at hj
          rw [hj0] at hj
          have e1 : d = d' := by simpa using hj
          have e2 : j = i := by omega
          subst e1 e2
          rw [hzi] at hj2; cases hj2
          exact ⟨h0, h1⟩
      refine ⟨pp, _, rfl, SqT.of yaa, rfl, _, _, rfl, _, _, rfl, rfl, ?_⟩
      refine ⟨_, rfl, wd, rfl, ?_⟩
      cases wd with
      | true =>
        refine iteT ⟨_, rfl, _, _, rfl, rfl, _, rfl, ?_⟩
        by_cases hn : 0 < nu
        · refine iteD hn ?_
          refine ⟨_, rfl, .inl ⟨rfl, _, SqL.of hp3⟩, _, rfl, _, rfl, _, _, rfl, rfl, hz0, p, _, _, rfl, rfl, hp3, qc2 (by rw [List.length_map]; omega), ?_⟩
          refine ⟨_, rfl, _, rfl, _, _, rfl, rfl, ⟨hz0, by omega⟩, ?_⟩
          exact ⟨_, seed, ds ++ [nu % z], _, _, rfl, s3.at hp, by rw [List.map_append]; exact yaa, by simp [hln], fin _ (Int.emod_nonneg _ (by omega)) (Int.emod_lt_of_pos _ hz0), hse0, hse1⟩
        · refine iteN (decide_eq_false hn) ?_
          refine ⟨_, rfl, _, rfl, _, _, rfl, rfl, _, _, rfl, rfl, .inl ⟨by decide, by decide⟩, _, _, rfl, rfl, _, _, rfl, rfl, ⟨by decide, by decide, by omega⟩, _, _, rfl, rfl, (by show (0 : Int) < 2147483587; decide), ?_⟩
          have g0 := Int.emod_nonneg ((seed + 104729 * ((i : Int) + 1)) ^ (2 : Int).toNat) (show (2147483587 : Int) ≠ 0 by decide)
          have g1 := Int.emod_lt_of_pos ((seed + 104729 * ((i : Int) + 1)) ^ (2 : Int).toNat) (show (0 : Int) < 2147483587 by decide)
          generalize hse' : (seed + 104729 * ((i : Int) + 1)) ^ (2 : Int).toNat % 2147483587 = seed' at g0 g1
          refine ⟨_, rfl, .inl ⟨rfl, _, SqL.of hp3⟩, _, rfl, _, _, rfl, rfl, ⟨by decide, by decide⟩, _, rfl, _, _, rfl, rfl, hz0, p, _, _, rfl, rfl, hp3, qc2 (by rw [List.length_map]; omega), ?_⟩
          exact ⟨nu, seed', ds ++ [seed' / 16 % z], _, _, by rw [← hse']; rfl, s3.at hp, by rw [List.map_append, ← hse']; exact yaa, by simp [hln], fin _ (Int.emod_nonneg _ (by omega)) (Int.emod_lt_of_pos _ hz0), g0, by omega⟩
      | false =>
        refine iteF (iteF ?_)
        refine ⟨_, rfl, _, rfl, _, _, rfl, rfl, _, _, rfl, rfl, .inl ⟨by decide, by decide⟩, _, _, rfl, rfl, _, _, rfl, rfl, ⟨by decide, by decide, by omega⟩, _, _, rfl, rfl, (by show (0 : Int) < 2147483587; decide), ?_⟩
        have g0 := Int.emod_nonneg ((seed + 104729 * ((i : Int) + 1)) ^ (2 : Int).toNat) (show (2147483587 : Int) ≠ 0 by decide)
        have g1 := Int.emod_lt_of_pos ((seed + 104729 * ((i : Int) + 1)) ^ (2 : Int).toNat) (show (0 : Int) < 2147483587 by decide)
        generalize hse' : (seed + 104729 * ((i : Int) + 1)) ^ (2 : Int).toNat % 2147483587 = seed' at g0 g1
        refine ⟨_, rfl, .inl ⟨rfl, _, SqL.of hp3⟩, _, rfl, _, _, rfl, rfl, ⟨by decide, by decide⟩, _, rfl, _, _, rfl, rfl, hz0, p, _, _, rfl, rfl, hp3, qc2 (by rw [List.length_map]; omega), ?_⟩
        exact ⟨nu, seed', ds ++ [seed' / 16 % z], _, _, by rw [← hse']; rfl, s3.at hp, by rw [List.map_append, ← hse']; exact yaa, by simp [hln], fin _ (Int.emod_nonneg _ (by omega)) (Int.emod_lt_of_pos _ hz0), g0, by omega⟩
    · rintro σ H2 ⟨nu, seed, ds, q1, q2, rfl, s2, hp2, hln, hds, _, _⟩
      rw [List.length_map] at hln
      exact ⟨_, rfl, k p ds H2 s2 hp hp2 ⟨hln, hds⟩⟩
end
def qas : List Str := ["stuck", "slow", "forgets", "misreads", "turns", "sets", "keeps", "nowhere", "other", "both"]
section
variable {P : Program} {w : World} {K : PySem.W.Frag} {mg : Str → Option Value} {base : Heap}
end
theorem yj0 {d : Int} (h0 : 0 ≤ d) (h1 : d < 2) : ∃ b, d = b2i b := by
  rcases (by omega : d = 0 ∨ d = 1) with rfl | rfl
  · exact ⟨false, rfl⟩
  · exact ⟨true, rfl⟩
theorem in5 {s a b c d e : Str} : inV (.str s) (([a, b, c, d, e] : List Str).map V.str) = decide (s = a ∨ s = b ∨ s = c ∨ s = d ∨ s = e) := by
  unfold inV
  rw [Bool.eq_iff_iff]
  simp [eqS]
theorem yi8 {s : Str} (h : s ∈ qas) : (s = "stuck" ∨ s = "slow" ∨ s = "forgets" ∨ s = "misreads" ∨ s = "nowhere") ∨ s = "turns" ∨ (s = "sets" ∨ s = "keeps") ∨ s = "other" ∨ s = "both" := by
  simp [qas] at h
  rcases h with rfl | rfl | rfl | rfl | rfl | rfl | rfl | rfl | rfl | rfl <;> simp
theorem qgk {ss : List Int} (nd : ss.Nodup) {a : Int} (ha : a ∈ ss) : (ss.filter fun x => !decide (V.int x = V.int a)).length = ss.length - 1 := by
  induction ss with
  | nil => simp at ha
  | cons x r ih =>
    obtain ⟨h1, h2⟩ := List.nodup_cons.mp nd
    by_cases hx : x = a
    · subst hx
      have : r.filter (fun y => !decide (V.int y = V.int x)) = r := List.filter_eq_self.mpr fun y hy => by
        have : y ≠ x := fun z => h1 (z ▸ hy)
        simp [this]
      rw [List.filter_cons, if_neg (by simp), this]
      simp
    · have ha' : a ∈ r := by
        rcases List.mem_cons.mp ha with h | h
        · exact absurd h.symm hx
        · exact h
      have hp := List.length_pos_of_mem ha'
      rw [List.filter_cons, if_pos (by simp [hx]), List.length_cons, ih h2 ha', List.length_cons]
      omega
section
variable {P : Program} {w : World} {K : PySem.W.Frag} {mg : Str → Option Value} {base : Heap}
def okSome (ss : List Int) (n : Int) : Prop := ss.Nodup ∧ 2 ≤ ss.length ∧ ss.length ≤ 3 ∧ ∀ x ∈ ss, 0 ≤ x ∧ x < n
def qkb : Sp := fun vs H Q _ => ∃ (d S : Addr) (d0 d1 d2 d3 d4 : Int) (ss : List Int) (n : Int), vs = [.ref d, .ref S] ∧ H d = some (.lst [.int d0, .int d1, .int d2, .int d3, .int d4]) ∧ 0 ≤ d0 ∧ d0 < 10 ∧ 0 ≤ d1 ∧ 0 ≤ d2 ∧ 0 ≤ d3 ∧ d3 < 2 ∧ 0 ≤ d4 ∧ d4 < 2 ∧
  H S = some (.lst (ss.map V.int)) ∧ okSome ss n ∧ n ≤ 64 ∧ ∀ v h ns H', Same H H' → HAt H' v h → (∀ a, v = .ref a → H a = none) → okH h ns → (∀ c ∈ h.c, c ∈ ss) → Q v H'
abbrev ybw : Stmt := top 55
theorem yeh : FnScope ["_law_d", "_law_some", "_law_words", "_law_word", "_law_a", "_law_b"] ["_law_d", "_law_some"] (yab ybw) := ⟨rfl, rfl, rfl, by decide +kernel, rfl, by decide +kernel, by decide +kernel⟩
/- slots: 0 _law_d, 1 _law_some, 2 _law_words, 3 _law_word, 4 _law_a, 5 _law_b; cells: _law_a -/
theorem ok_harm (B : Bl mg) (F : FnAt K mg "_law_harm" ybw ["_law_d", "_law_some"]) : Has P w K mg base 1 "_law_harm" ["_law_d", "_law_some"] qkb := by
  refine Has.ofQ F yeh (fun vs H Q E h => ?_) (fun f cdv A outer s H vs Q E hr h => ?_)
  · obtain ⟨d, S, d0, d1, d2, d3, d4, ss, n, rfl, _⟩ := h
    rfl
  · obtain ⟨d, S, d0, d1, d2, d3, d4, ss, n, rfl, hd, a0, a0', a1, a2, a3, a3', a4, a4', hS, ⟨nd, l2, l3, hr0⟩, hn, k⟩ := h
    have sc := yeh
    refine ⟨_, (yan rfl (qad (yar (i := 2) sc.nd rfl (Or.inl rfl) (qe_strs (xs := qas) (by decide +kernel)))
      (qad (yar (i := 3) sc.nd rfl (Or.inl rfl) (qbe qal (qab (pv 2)) (qbe qal (qab (pv 0)) (qab qac) (fun _ _ => rfl)) (fun _ _ => rfl)))
      (qad (yar (i := 4) sc.nd rfl (Or.inr rfl) (qbe qal (qab (pv 1)) (ybq qc3 (qbe qal (qab (pv 0)) (qab qac) (fun _ _ => rfl)) (qbv qaj rfl (B.of rfl) boot_len (qak (qab (pv 1)) yad))) (fun _ _ => rfl)))
      (qad (yar (i := 5) sc.nd rfl (Or.inl rfl) (qbe qal (qab (qc1 rfl (qbl rfl) (M := ["_law_cell", "_law_a"]) (ix := [none, some 4]) (qb5 (pv 1)) (fun _ _ _ _ => (qan (i := 0) (show List.Nodup (["_law_cell", "_law_a"] : List Str) by decide +kernel) rfl (Or.inl rfl))) (fun _ _ _ _ => (yge (qar yix (pv 0) (pv 1) (yai _)))) (fun _ _ _ _ => (pv 0)))) (ybq qc3 (qbe qal (qab (pv 0)) (qab qac) (fun _ _ => rfl)) (ybq qi2 (qbv qaj rfl (B.of rfl) boot_len (qak (qab (pv 1)) yad)) (qab qac))) (fun _ _ => rfl)))
      (qad (ybc (qa6 qb2 (qab (pv 3)) (qe_tstrs (xs := ["stuck", "slow", "forgets", "misreads", "nowhere"]) (by decide +kernel)) (by with_unfolding_all rfl))
        (yaf (qay (ybh (qak (qab (pv 3)) (qak (qab (pv 4)) (qe0 (qbe qal (qab (pv 0)) (qab qac) (fun _ _ => rfl)) yad))))))
        qa1)
      (qad (ybc (qa6 ybk (qab (pv 3)) (qab yal) (yai _))
        (yaf (qay (ybh (qak (qab (pv 3)) (qak (qab (pv 4)) (qak (qab (pv 5)) (qe0 (qbe qal (qab (pv 0)) (qab qac) (fun _ _ => rfl)) yad)))))))
        qa1)
      (qad (ybc (qa6 qb2 (qab (pv 3)) (ybh (yam (qab yal) (yam (qab yal) yad))) (by with_unfolding_all rfl))
        (yaf (qay (ybh (qak (qab (pv 3)) (qak (qab (pv 4)) (qak (qab (pv 5)) (qe0 (qbe qal (qab (pv 0)) (qab qac) (fun _ _ => rfl)) (qe0 (qbe qal (qab (pv 0)) (qab qac) (fun _ _ => rfl)) yad))))))))
        qa1)
      (yaf (qay (qbe qal (qav (yd5 (ybh (yam (qab yal) (qak (qab (pv 4)) (qak (qab (pv 5)) yad)))) (yd5 (ybh (yam (qab yal) (qak (qab (pv 4)) (qak (qab (pv 5)) (qe0 (qbe qal (qav (yam (qab yal) (yam (qab yal) yad))) (qbe qal (qab (pv 0)) (qab qac) (fun _ _ => rfl)) (fun _ _ => rfl)) yad))))) yad))) (qbk yjb rfl (B.of rfl) boot_int (qa_cp (qe_cmpR ybk (qab (pv 3)) (qab yal) (yai _)) yad)) (fun _ _ => rfl)))))))))))), ?_⟩
    have hsl : 10 ≤ sizeLine := by decide
    refine ⟨hsl, fun wp hwp => ?_⟩
    have s1 : Same H (upd H wp (.lst (qas.map V.str))) := (Same.refl H).upd hwp
    have f1 : upd H wp (.lst (qas.map V.str)) wp = some (.lst (qas.map V.str)) := yaa
    revert s1 f1
    generalize upd H wp (.lst (qas.map V.str)) = H1
    intro s1 f1
    obtain ⟨word, hword⟩ : ∃ x, qas[d0.toNat]? = some x := ⟨qas[d0.toNat]'(by show d0.toNat < 10; omega), List.getElem?_eq_getElem _⟩
    refine ⟨_, rfl, _, rfl, d, _, _, _, rfl, rfl, SqL.of (s1 _ _ hd), qaf 0 rfl, wp, _, _, .str word, rfl, rfl, SqL.of f1, ye4 a0 (by rw [List.getElem?_map, hword]; rfl), ?_⟩
    have hwm := yi8 (List.mem_of_getElem? hword)
    -- a
    have hm1 := Int.emod_nonneg d1 (show (ss.length : Int) ≠ 0 by omega)
    have hm1' := Int.emod_lt_of_pos d1 (show (0 : Int) < ss.length by omega)
    obtain ⟨a, ha⟩ : ∃ x, ss[(d1 % (ss.length : Int)).toNat]? = some x := ⟨ss[(d1 % (ss.length : Int)).toNat]'(by omega), List.getElem?_eq_getElem _⟩
    refine ⟨_, rfl, _, rfl, d, _, _, _, rfl, rfl, SqL.of (s1 _ _ hd), qaf 1 rfl, _, rfl, S, _, rfl, .inl (SqL.of (s1 _ _ hS)), _, _, rfl, rfl, (by rw [List.length_map]; show (0 : Int) < ss.length; omega), S, _, _, .int a, rfl, rfl, SqL.of (s1 _ _ hS), ?_, ?_⟩
    · rw [List.length_map]
      exact ye4 hm1 (qbd ha)
    have ham := List.mem_of_getElem? ha
    -- b
    refine ⟨_, rfl, S, rfl, ⟨_, SqL.of (s1 _ _ hS)⟩, fun D hD => yds (n := ss.length) (fun i H' => Same H1 H' ∧ H' D = some (.lst (((ss.take i).filter fun x => !decide (V.int x = V.int a)).map V.int))) ⟨(Same.refl H1).upd hD, yaa⟩ ?_ ?_⟩
    rotate_left
    · rintro i H2 hi ⟨s2, e2⟩
      have hS2 := s2 _ _ (s1 _ _ hS)
      refine ⟨⟨_, _, SqL.of hS2, by rw [List.getElem?_map, List.getElem?_eq_getElem hi]; rfl⟩, ?_⟩
      rintro x H3 ⟨rfl, hx⟩
      obtain ⟨y, hy, rfl⟩ := ycs (hx _ (SqL.of hS2))
      refine ⟨qbc.set (qbc.refl _) rfl, ?_⟩
      refine ⟨_, rfl, _, rfl, rfl, _, rfl, ?_⟩
      have hfl := List.length_filter_le (fun x => !decide (V.int x = V.int a)) (ss.take i)
      have htl : (ss.take i).length ≤ ss.length := by rw [List.length_take]; omega
      rw [List.take_add_one, hy]
      by_cases hya : y = a
      · refine iteN (by simp [hya]) ⟨s2, ?_⟩
        rw [e2]; simp [hya]
      · refine iteB (by simp [hya]) ⟨_, rfl, _, e2, qc2 (by rw [List.length_map]; omega), s2.at hD, ?_⟩
        rw [yaa]; simp [hya]
    rintro H2 ⟨s2, e2⟩
    rw [List.take_length] at e2
    refine ⟨⟨_, SqL.of (s2 _ _ (s1 _ _ hS)), by simp⟩, ?_⟩
    have hfl := qgk nd ham
    have hfm : ∀ x ∈ ss.filter (fun x => !decide (V.int x = V.int a)), x ∈ ss ∧ x ≠ a := fun x hx => by
      obtain ⟨h1, h2⟩ := List.mem_filter.mp hx
      exact ⟨h1, fun z => by subst z; simp at h2⟩
    revert hfl hfm e2
    generalize ss.filter (fun x => !decide (V.int x = V.int a)) = fs
    intro e2 hfl hfm
    have hm2 := Int.emod_nonneg d2 (show ((ss.length : Int) - 1) ≠ 0 by omega)
    have hm2' := Int.emod_lt_of_pos d2 (show (0 : Int) < (ss.length : Int) - 1 by omega)
    obtain ⟨b, hb⟩ : ∃ x, fs[(d2 % ((ss.length : Int) - 1)).toNat]? = some x := ⟨fs[(d2 % ((ss.length : Int) - 1)).toNat]'(by omega), List.getElem?_eq_getElem _⟩
    have s12 := s1.trans s2
    refine ⟨_, rfl, d, _, _, _, rfl, rfl, SqL.of (s12 _ _ hd), qaf 2 rfl, _, rfl, S, _, rfl, .inl (SqL.of (s12 _ _ hS)), _, _, rfl, rfl, _, _, rfl, rfl, (by rw [List.length_map]; show (0 : Int) < (ss.length : Int) - 1; omega), D, _, _, .int b, rfl, rfl, SqL.of e2, ?_, ?_⟩
    · rw [List.length_map]
      exact ye4 hm2 (qbd hb)
    obtain ⟨hbm, hba⟩ := hfm b (List.mem_of_getElem? hb)
    obtain ⟨x3, rfl⟩ := yj0 a3 a3'
    obtain ⟨x4, rfl⟩ := yj0 a4 a4'
    have ra := hr0 a ham
    have rb := hr0 b hbm
    have nab : ([a, b] : List Int).Nodup := by simp [Ne.symm hba]
    have rg1 : ∀ x ∈ ([a] : List Int), 0 ≤ x ∧ x < 64 := fun x hx => by rw [List.mem_singleton.mp hx]; exact ⟨ra.1, by omega⟩
    have rg2 : ∀ x ∈ ([a, b] : List Int), 0 ≤ x ∧ x < 64 := fun x hx => by
      simp at hx
      rcases hx with rfl | rfl
      · exact ⟨ra.1, by omega⟩
      · exact ⟨rb.1, by omega⟩
    have mm1 : ∀ c ∈ ([a] : List Int), c ∈ ss := fun c hc => by rw [List.mem_singleton.mp hc]; exact ham
    have mm2 : ∀ c ∈ ([a, b] : List Int), c ∈ ss := fun c hc => by
      simp at hc
      rcases hc with rfl | rfl
      · exact ham
      · exact hbm
    have bx : ∀ x : Bool, bitV (.int (b2i x)) := fun x => ⟨x, rfl⟩
    -- the first sort
    refine ⟨_, rfl, (by show 5 ≤ sizeLine; decide), fun t1 w1 => ⟨t1, _, rfl, .inr (SqT.of yaa), rfl, rfl, _, rfl, ?_⟩⟩
    rw [in5]
    have s3 : Same H2 (upd H2 t1 (.tup ((["stuck", "slow", "forgets", "misreads", "nowhere"] : List Str).map V.str))) := (Same.refl H2).upd w1
    revert s3
    generalize upd H2 t1 (.tup ((["stuck", "slow", "forgets", "misreads", "nowhere"] : List Str).map V.str)) = H3
    intro s3
    have s13 := s12.trans s3
    by_cases c1 : word = "stuck" ∨ word = "slow" ∨ word = "forgets" ∨ word = "misreads" ∨ word = "nowhere"
    · refine iteD c1 ?_
      refine ⟨_, rfl, _, rfl, _, rfl, d, _, _, _, rfl, rfl, SqL.of (s13 _ _ hd), qaf 3 rfl, (by show 3 ≤ sizeLine; decide), fun p hp => ?_⟩
      exact k _ ⟨word, [a], [.int (b2i x3)]⟩ ["bit"] _ (s13.upd hp) ⟨p, rfl, yaa⟩ (fun a e => by cases e; exact s13.free hp) ⟨qf7 c1, .bit (bx _) .nil, by simp, by simp, by simp, rg1⟩ mm1
    refine qbu c1 ?_
    refine ⟨_, rfl, rfl, _, rfl, ?_⟩
    rw [dS]
    by_cases c2 : word = "turns"
    · refine iteD c2 ?_
      refine ⟨_, rfl, _, rfl, _, rfl, _, rfl, d, _, _, _, rfl, rfl, SqL.of (s13 _ _ hd), qaf 3 rfl, (by show 4 ≤ sizeLine; decide), fun p hp => ?_⟩
      exact k _ ⟨word, [a, b], [.int (b2i x3)]⟩ ["bit"] _ (s13.upd hp) ⟨p, rfl, yaa⟩ (fun a e => by cases e; exact s13.free hp) ⟨by rw [c2]; exact qg5, .bit (bx _) .nil, by simp, by simp, nab, rg2⟩ mm2
    refine qbu c2 ?_
    refine ⟨_, rfl, (by show 2 ≤ sizeLine; decide), fun t2 w2 => ⟨t2, _, rfl, .inr (SqT.of yaa), rfl, rfl, _, rfl, ?_⟩⟩
    rw [in2]
    have s4 : Same H3 (upd H3 t2 (.tup [.str "sets", .str "keeps"])) := (Same.refl H3).upd w2
    revert s4
    generalize upd H3 t2 (.tup [.str "sets", .str "keeps"]) = H4
    intro s4
    have s14 := s13.trans s4
    by_cases c3 : word = "sets" ∨ word = "keeps"
    · refine iteD c3 ?_
      refine ⟨_, rfl, _, rfl, _, rfl, _, rfl, d, _, _, _, rfl, rfl, SqL.of (s14 _ _ hd), qaf 3 rfl, _, rfl, d, _, _, _, rfl, rfl, SqL.of (s14 _ _ hd), qaf 4 rfl, (by show 5 ≤ sizeLine; decide), fun p hp => ?_⟩
      exact k _ ⟨word, [a, b], [.int (b2i x3), .int (b2i x4)]⟩ ["bit", "bit"] _ (s14.upd hp) ⟨p, rfl, yaa⟩ (fun a e => by cases e; exact s14.free hp) ⟨qex c3, .bit (bx _) (.bit (bx _) .nil), by simp, by simp, nab, rg2⟩ mm2
    refine qbu c3 ?_
    have c4 : word = "other" ∨ word = "both" := by
      rcases hwm with h | h | h | h | h
      · exact absurd h c1
      · exact absurd h c2
      · exact absurd h c3
      · exact .inl h
      · exact .inr h
    refine ⟨_, rfl, _, rfl, (by show 3 ≤ sizeLine; decide), fun o1 y1 => ?_⟩
    have s5 : Same H4 (upd H4 o1 (.tup [.str "other", .int a, .int b])) := (Same.refl H4).upd y1
    have f5 : upd H4 o1 (.tup [.str "other", .int a, .int b]) o1 = some (.tup [.str "other", .int a, .int b]) := yaa
    revert s5 f5
    generalize upd H4 o1 (.tup [.str "other", .int a, .int b]) = H5
    intro s5 f5
    refine ⟨_, rfl, _, rfl, (by show 2 ≤ sizeLine; decide), fun o2 y2 => ?_⟩
    have s6 : Same H5 (upd H5 o2 (.lst [.str "and", .str "or"])) := (Same.refl H5).upd y2
    have f6 : upd H5 o2 (.lst [.str "and", .str "or"]) o2 = some (.lst [.str "and", .str "or"]) := yaa
    revert s6 f6
    generalize upd H5 o2 (.lst [.str "and", .str "or"]) = H6
    intro s6 f6
    have s16 := (s14.trans s5).trans s6
    obtain ⟨hv, hhv, hho⟩ : ∃ v, atI [V.str "and", .str "or"] (b2i x3) = some v ∧ howV v := by
      cases x3
      · exact ⟨_, rfl, .inl rfl⟩
      · exact ⟨_, rfl, .inr rfl⟩
    refine ⟨_, rfl, d, _, _, _, rfl, rfl, SqL.of (s16 _ _ hd), qaf 3 rfl, o2, _, _, hv, rfl, rfl, SqL.of f6, hhv, (by show 4 ≤ sizeLine; decide), fun o3 y3 => ?_⟩
    have s7 : Same H6 (upd H6 o3 (.tup [.str "both", .int a, .int b, hv])) := (Same.refl H6).upd y3
    have f7 : upd H6 o3 (.tup [.str "both", .int a, .int b, hv]) o3 = some (.tup [.str "both", .int a, .int b, hv]) := yaa
    revert s7 f7
    generalize upd H6 o3 (.tup [.str "both", .int a, .int b, hv]) = H7
    intro s7 f7
    refine ⟨(by show 2 ≤ sizeLine; decide), fun o4 y4 => ?_⟩
    have s8 : Same H7 (upd H7 o4 (.lst [.ref o1, .ref o3])) := (Same.refl H7).upd y4
    have f8 : upd H7 o4 (.lst [.ref o1, .ref o3]) o4 = some (.lst [.ref o1, .ref o3]) := yaa
    revert s8 f8
    generalize upd H7 o4 (.lst [.ref o1, .ref o3]) = H8
    intro s8 f8
    have s68 := s7.trans s8
    have s18 := s16.trans s68
    refine ⟨_, rfl, rfl, .inr ⟨_, rfl, ?_⟩⟩
    rcases c4 with rfl | rfl
    · refine ⟨o4, _, _, _, rfl, rfl, SqL.of f8, qaf 0 rfl (by decide +kernel), ?_⟩
      exact k _ ⟨"other", [a, b], []⟩ [] _ s18 ⟨o1, rfl, (s6.trans s68) _ _ f5⟩ (fun a e => by cases e; exact s14.free y1) ⟨yez, .nil, by simp, by simp, nab, rg2⟩ mm2
    · refine ⟨o4, _, _, _, rfl, rfl, SqL.of f8, qaf 1 rfl (by decide +kernel), ?_⟩
      exact k _ ⟨"both", [a, b], [hv]⟩ ["how"] _ s18 ⟨o3, rfl, s8 _ _ f7⟩ (fun a e => by cases e; exact s16.free y3) ⟨yf5, .how hho .nil, by simp, by simp, nab, rg2⟩ mm2
end
theorem HsV.snoc {H : Hp} {us : List V} {hs : List Hm} {v : V} {h : Hm} (x : HsV H us hs) (hv : HAt H v h) : HsV H (us ++ [v]) (hs ++ [h]) := by
  refine ⟨by simp [x.len], fun i u g h1 h2 => ?_⟩
  by_cases hi : i < us.length
  · rw [List.getElem?_append_left hi] at h1
    rw [List.getElem?_append_left (by rw [← x.len]; exact hi)] at h2
    exact x.at_ i u g h1 h2
  · rw [List.getElem?_append_right (by omega)] at h1
    rw [List.getElem?_append_right (by rw [← x.len]; omega), ← x.len] at h2
    cases hj : i - us.length with
    | zero => rw [hj] at h1 h2; cases h1; cases h2; exact hv
    | succ n => rw [hj] at h1; simp at h1
theorem take5 {l : List Int} {a : Nat} (h : a + 5 ≤ l.length) : (l.drop a).take 5 = [l.getD a 0, l.getD (a + 1) 0, l.getD (a + 2) 0, l.getD (a + 3) 0, l.getD (a + 4) 0] := by
  have g : ∀ k, k < l.length → l.getD k 0 = l[k]?.getD 0 := fun k _ => List.getD_eq_getElem?_getD ..
  rw [List.drop_eq_getElem_cons (show a < l.length by omega), List.drop_eq_getElem_cons (show a + 1 < l.length by omega), List.drop_eq_getElem_cons (show a + 1 + 1 < l.length by omega), List.drop_eq_getElem_cons (show a + 1 + 1 + 1 < l.length by omega), List.drop_eq_getElem_cons (show a + 1 + 1 + 1 + 1 < l.length by omega)]
  simp only [List.take_succ_cons, List.take_zero, List.getD_eq_getElem?_getD]
  rw [List.getElem?_eq_getElem (show a < l.length by omega), List.getElem?_eq_getElem (show a + 1 < l.length by omega), List.getElem?_eq_getElem (show a + 2 < l.length by omega), List.getElem?_eq_getElem (show a + 3 < l.length by omega), List.getElem?_eq_getElem (show a + 4 < l.length by omega)]
  rfl
theorem qj9 {xs : List V} {a b : Nat} : cutV xs (some (a : Int)) (some (b : Int)) = (xs.drop (min a xs.length)).take (min b xs.length - min a xs.length) := by
  unfold cutV
  rw [HT.sIx_nat, HT.sIx_nat]
def qft (ss : List Int) (i : Nat) : List Int := ((List.range i).map fun j : Nat => (j : Int)).filter fun x => !inV (.int x) (ss.map V.int)
theorem yh7 {x : Int} {ss : List Int} : inV (.int x) (ss.map V.int) = decide (x ∈ ss) := by
  rw [Bool.eq_iff_iff, decide_eq_true_iff]
  unfold inV
  rw [List.any_map, List.any_eq_true]
  constructor
  · rintro ⟨y, hy, h⟩
    have : y = x := by simpa [eqV] using h
    exact this ▸ hy
  · intro h
    exact ⟨x, h, by simp [eqV]⟩
theorem free_mem {ss : List Int} {n : Nat} {x : Int} (h : x ∈ qft ss n) : 0 ≤ x ∧ x < n ∧ x ∉ ss := by
  obtain ⟨h1, h2⟩ := List.mem_filter.mp h
  obtain ⟨j, hj, rfl⟩ := List.mem_map.mp h1
  have := List.mem_range.mp hj
  rw [yh7] at h2
  exact ⟨by omega, by omega, by simpa using h2⟩
theorem yj3 {ss : List Int} {n : Nat} (h : ss.length < n) : qft ss n ≠ [] := by
  intro e
  have hsub : ∀ x ∈ (List.range n).map (fun j : Nat => (j : Int)), x ∈ ss := fun x hx => by
    by_cases hm : x ∈ ss
    · exact hm
    · have : x ∈ qft ss n := List.mem_filter.mpr ⟨hx, by rw [yh7]; simp [hm]⟩
      rw [e] at this; cases this
  have nd : ((List.range n).map (fun j : Nat => (j : Int))).Nodup := by
    rw [List.nodup_iff_pairwise_ne, List.pairwise_map]
    exact List.Pairwise.imp (fun h z => h (by omega)) List.nodup_range
  have := qh3 nd hsub
  simp at this
  omega
section
variable {P : Program} {w : World} {K : PySem.W.Frag} {mg : Str → Option Value} {base : Heap}
def qh8 : Sp := fun vs H Q _ => ∃ (c t : Int) (n : Nat), vs = [.int c, .int t, .int n, .int 3] ∧ 0 ≤ t ∧ t ≤ 1000000 ∧ 2 ≤ n ∧ n ≤ 64 ∧
  ∀ (p : Addr) (us : List V) (hs : List Hm) (S : List Int) (H' : Hp), Same H H' → H p = none → H' p = some (.lst us) → HsV H' us hs → okHs hs S → 1 ≤ hs.length → InR hs n → Q (.ref p) H'
abbrev ybp : Stmt := top 56
theorem qdv : FnScope ["_law_cell", "_law_turn", "_law_size", "_law_most", "_law_d", "_law_some", "_law_k", "_law_free"] ["_law_cell", "_law_turn", "_law_size", "_law_most"] (yab ybp) := ⟨rfl, rfl, rfl, by decide +kernel, rfl, by decide +kernel, by decide +kernel⟩
/- slots: 0 _law_cell, 1 _law_turn, 2 _law_size, 3 _law_most, 4 _law_d, 5 _law_some, 6 _law_k, 7 _law_free; cells: _law_d, _law_some -/
theorem ok_harms (B : Bl mg) (ycp : Has P w K mg base 1 "_law_digits" ["_law_cell", "_law_turn", "_law_sizes"] ye0) (qhr : Has P w K mg base 1 "_law_harm" ["_law_d", "_law_some"] qkb) (F : FnAt K mg "_law_harms" ybp ["_law_cell", "_law_turn", "_law_size", "_law_most"]) : Has P w K mg base 2 "_law_harms" ["_law_cell", "_law_turn", "_law_size", "_law_most"] qh8 := by
  refine Has.ofQ F qdv (fun vs H Q E h => ?_) (fun f cdv A outer s H vs Q E hr h => ?_)
  · obtain ⟨c, t, n, rfl, _⟩ := h
    rfl
  · obtain ⟨c, t, n, rfl, t0, t1, n2, n64, k⟩ := h
    have sc := qdv
    refine ⟨_, (yan rfl (qad (yar (i := 4) sc.nd rfl (Or.inr rfl) (qap ycp hr (qak (qab (pv 0)) (qak (qab (pv 1)) (qd5 (ybq ycc (qav (qak (qab (pv 3)) (qak (qab (pv 2)) (qak (qab (pv 2)) (qak (qab (pv 2)) yad))))) (ybq yjk (qav (yam (qab qac) (yam (qab qac) (yam (qab qac) (yam (qab qac) (yam (qab qac) yad)))))) (qab qac))) yad)))))
      (qad (yar (i := 5) sc.nd rfl (Or.inr rfl) (qav (qe0 (qbe qal (qab (pv 4)) (qab qac) (fun _ _ => rfl)) yad)))
      (qad (qfq PassesOwn.never rfl (qi_of (qc5 rfl (B.of rfl) (qaa qac yac))) (qan (i := 6) sc.nd rfl (Or.inl rfl))
        (qad (qd3 (qjg (i := 7) rfl sc.nd rfl (Or.inl rfl) rfl (qbl rfl) (M := ["_law_one", "_law_some"]) (ix := [none, some 5]) (qc5 rfl (B.of rfl) (qaa (pv 2) yac)) (fun _ _ _ _ => (qan (i := 0) (show List.Nodup (["_law_one", "_law_some"] : List Str) by decide +kernel) rfl (Or.inl rfl))) (fun _ _ _ _ => (yge (qar (qga (K := K) rfl) (pv 0) (pv 1) (by with_unfolding_all rfl)))) (fun _ _ _ _ => (pv 0))))
        (yaf (yar (i := 5) sc.nd rfl (Or.inr rfl) (ybq ycc (qab (pv 5)) (qab (qbs yd7 (qbs yd7 (pv 7) (ybt (qbi qc3 (yay qal (pv 4) (qbi yb8 qac (pv 6)) (fun _ _ => rfl)) (qae (yg4 rfl) rfl (B.of rfl) boot_max (qaa qac (qaa (qae qaj rfl (B.of rfl) boot_len (qaa (pv 7) yac)) yac))))) qci) qci (ybt qac))))))))
      (yaf (qay (qab (qc1 rfl (qbl rfl) (M := ["_law_k", "_law_some", "_law_d"]) (ix := [none, some 5, some 4]) (qc5 rfl (B.of rfl) (qaa (qbi yb8 qac (yay qal (pv 4) qac (fun _ _ => rfl))) yac)) (fun _ _ _ _ => (qan (i := 0) (show List.Nodup (["_law_k", "_law_some", "_law_d"] : List Str) by decide +kernel) rfl (Or.inl rfl))) (fun _ _ _ _ => qd8) (fun _ _ _ _ => (qah qhr hr (qaa (qbs (qf8 (K := K) rfl) (pv 2) (ybt (qbi yb8 qac (qbi ygq qac (pv 0)))) (ybt (qbi yb8 qac (qbi ygq qac (pv 0))))) (qaa (pv 1) yac)))))))))))), ?_⟩
    refine ⟨_, rfl, _, rfl, _, rfl, _, rfl, _, rfl, _, rfl, (by show 4 ≤ sizeLine; decide), fun p1 v1 => ?_⟩
    have s1 : Same H (upd H p1 (.lst [.int 3, .int n, .int n, .int n])) := (Same.refl H).upd v1
    have f1 : upd H p1 (.lst [.int 3, .int n, .int n, .int n]) p1 = some (.lst [.int 3, .int n, .int n, .int n]) := yaa
    revert s1 f1
    generalize upd H p1 (.lst [.int 3, .int n, .int n, .int n]) = H1
    intro s1 f1
    refine ⟨(by show 5 ≤ sizeLine; decide), fun p2 v2 => ?_⟩
    have s2 : Same H1 (upd H1 p2 (.lst [.int 10, .int 6, .int 6, .int 2, .int 2])) := (Same.refl H1).upd v2
    have f2 : upd H1 p2 (.lst [.int 10, .int 6, .int 6, .int 2, .int 2]) p2 = some (.lst [.int 10, .int 6, .int 6, .int 2, .int 2]) := yaa
    revert s2 f2
    generalize upd H1 p2 (.lst [.int 10, .int 6, .int 6, .int 2, .int 2]) = H2
    intro s2 f2
    refine ⟨p2, 3, _, rfl, rfl, f2, by decide, by decide, qgs (by decide), fun p3 v3 => ?_⟩
    have s3 : Same H2 (upd H2 p3 (.lst (List.replicate (3 : Int).toNat [V.int 10, .int 6, .int 6, .int 2, .int 2]).flatten)) := (Same.refl H2).upd v3
    have f3 : upd H2 p3 (.lst (List.replicate (3 : Int).toNat [V.int 10, .int 6, .int 6, .int 2, .int 2]).flatten) p3 = some (.lst (([10, 6, 6, 2, 2, 10, 6, 6, 2, 2, 10, 6, 6, 2, 2] : List Int).map V.int)) := yaa
    revert s3 f3
    generalize upd H2 p3 (.lst (List.replicate (3 : Int).toNat [V.int 10, .int 6, .int 6, .int 2, .int 2]).flatten) = H3
    intro s3 f3
    refine ⟨p1, p3, _, _, rfl, rfl, (s2.trans s3) _ _ f1, f3, qgs (by simp), fun p4 v4 => ?_⟩
    have s13 := (s1.trans s2).trans s3
    refine ⟨c, t, p4, [3, n, n, n, 10, 6, 6, 2, 2, 10, 6, 6, 2, 2, 10, 6, 6, 2, 2], rfl, yaa, by simp, ?_, t0, t1, fun dp ds H5 s5 ndp hdp hD => ?_⟩
    · intro z hz
      simp at hz
      omega
    have s15 : Same H H5 := (s13.upd v4).trans s5
    clear s5
    have dl : ds.length = 19 := hD.1
    obtain ⟨e0, g0, b0, b0'⟩ := hD.get (i := 0) (z := 3) rfl
    obtain ⟨e1, g1, b1, b1'⟩ := hD.get (i := 1) (z := n) rfl
    refine ⟨_, rfl, dp, _, _, _, rfl, rfl, SqL.of hdp, qaf 1 (qbd g1), (by show 1 ≤ sizeLine; decide), fun sp v6 => ?_⟩
    have s6 : Same H5 (upd H5 sp (.lst [.int e1])) := (Same.refl H5).upd v6
    have f6 : upd H5 sp (.lst [.int e1]) sp = some (.lst (([e1] : List Int).map V.int)) := yaa
    revert s6 f6
    generalize upd H5 sp (.lst [.int e1]) = H6
    intro s6 f6
    refine ⟨2, rfl, by decide, by decide, yfk (n := 2) (fun i σ H7 => ∃ (S : Addr) (ss : List Int) (o6 o7 : Option V), σ = [some (.int c), some (.int t), some (.int n), some (.int 3), some (.ref dp), some (.ref S), o6, o7] ∧ Same H5 H7 ∧ H7 S = some (.lst (ss.map V.int)) ∧ ss.Nodup ∧ 1 + min i 1 ≤ ss.length ∧ ss.length ≤ 1 + i ∧ ∀ x ∈ ss, 0 ≤ x ∧ x < n)
      ⟨sp, [e1], none, none, rfl, s6, f6, by simp, by simp, by simp, fun x hx => by rw [List.mem_singleton.mp hx]; exact ⟨b1, b1'⟩⟩ ?_ ?_⟩
    · rintro i σ H7 hi ⟨S, ss, o6, o7, rfl, s7, hS, nd, l1, l2, hin⟩
      refine ⟨_, rfl, _, rfl, by omega, by omega, fun D hD2 => yds (n := n) (fun j H' => Same H7 H' ∧ H' D = some (.lst ((qft ss j).map V.int))) ⟨(Same.refl H7).upd hD2, yaa⟩ ?_ ?_⟩
      rotate_left
      · rintro j H8 hj ⟨s8, e8⟩
        refine ⟨by show j < _; simpa using hj, ?_⟩
        rintro x H9 ⟨rfl, rfl⟩
        refine ⟨qbc.set (qbc.refl _) rfl, ?_⟩
        refine ⟨_, rfl, _, rfl, S, _, rfl, .inl (SqL.of (s8 _ _ hS)), rfl, by simp [yc9], _, rfl, ?_⟩
        have hsn : qft ss (j + 1) = qft ss j ++ (if (!inV (.int ((0 : Int) + (j : Int))) (ss.map V.int)) = true then [(0 : Int) + (j : Int)] else []) := by
          unfold qft
          rw [List.range_succ, List.map_append, List.filter_append, Int.zero_add]
          congr 1
          simp [List.filter_cons]
        have hll : (qft ss j).length ≤ j := by
          unfold qft
          refine Nat.le_trans (List.length_filter_le _ _) ?_
          simp
        rw [hsn]
        cases hb : (!inV (.int ((0 : Int) + (j : Int))) (ss.map V.int)) with
        | true =>
          refine iteB (by simpa using hb) ⟨_, rfl, _, e8, qc2 (by rw [List.length_map]; omega), s8.at hD2, ?_⟩
          rw [yaa, if_pos rfl, List.map_append]
          rfl
        | false =>
          refine iteN (by simpa using hb) ⟨s8, ?_⟩
          rw [e8, if_neg (by simp), List.append_nil]
      rintro H8 ⟨s8, e8⟩
      refine ⟨by show _ ≤ _; simp, ?_⟩
      obtain ⟨di, gi, ci, ci'⟩ : ∃ d, ds[2 + i]? = some d ∧ 0 ≤ d ∧ d < n := by
        rcases (by omega : i = 0 ∨ i = 1) with rfl | rfl
        · exact hD.get (i := 2) (z := n) rfl
        · exact hD.get (i := 3) (z := n) rfl
      have hm := @free_mem ss n
      have hsome := @yj3 ss n
      revert hm hsome e8
      generalize qft ss n = fs
      intro e8 hm hsome
      have s78 := s7.trans s8
      generalize hM : (if ((fs.map V.int).length : Int) > 1 then ((fs.map V.int).length : Int) else 1) = M
      have hM0 : 0 < M := by rw [← hM]; split <;> omega
      have hM1 : fs ≠ [] → M = fs.length := fun hne => by
        have := List.length_pos_iff.mpr hne
        rw [← hM, List.length_map]; split <;> omega
      have q0 := Int.emod_nonneg di (show M ≠ 0 by omega)
      have q1 := Int.emod_lt_of_pos di hM0
      refine ⟨_, rfl, _, rfl, _, rfl, _, rfl, _, _, rfl, rfl, dp, _, _, .int di, rfl, rfl, SqL.of (s78 _ _ hdp), ?_, _, rfl, D, _, rfl, .inl (SqL.of e8), _, _, rfl, _, _, rfl, rfl, ?_, ?_⟩
      · rw [show (2 : Int) + ((0 : Int) + (i : Int)) = ((2 + i : Nat) : Int) by omega]
        exact qho (qbd gi)
      · show (0 : Int) < (if ((fs.map V.int).length : Int) > 1 then ((fs.map V.int).length : Int) else 1)
        rw [hM]; exact hM0
      show ∃ i', V.int (di % (if ((fs.map V.int).length : Int) > 1 then ((fs.map V.int).length : Int) else 1)) = .int i' ∧ _
      rw [hM]
      refine ⟨_, rfl, D, _, rfl, SqL.of e8, fun c1 y1 => ?_⟩
      refine ⟨1, rfl, c1, _, rfl, SqL.of yaa, fun c2 y2 => ?_⟩
      have ecut : cutV (cutV (fs.map V.int) (some (di % M)) none) none (some 1) = ((fs.drop (di % M).toNat).take 1).map V.int := by
        rw [show di % M = (((di % M).toNat : Nat) : Int) by omega, yeq, show (1 : Int) = ((1 : Nat) : Int) from rfl, ygd, List.map_take, List.map_drop]
        rfl
      rw [ecut]
      have s9 := ((Same.refl H8).upd (o := .lst (cutV (fs.map V.int) (some (di % M)) none)) y1).upd (o := .lst (((fs.drop (di % M).toNat).take 1).map V.int)) y2
      have f9 : upd (upd H8 c1 (.lst (cutV (fs.map V.int) (some (di % M)) none))) c2 (.lst (((fs.drop (di % M).toNat).take 1).map V.int)) c2 = some (.lst (((fs.drop (di % M).toNat).take 1).map V.int)) := yaa
      revert s9 f9
      generalize upd (upd H8 c1 (.lst (cutV (fs.map V.int) (some (di % M)) none))) c2 (.lst (((fs.drop (di % M).toNat).take 1).map V.int)) = H9
      intro s9 f9
      refine ⟨S, c2, _, _, rfl, rfl, (s8.trans s9) _ _ hS, f9, qgs (by simp; omega), fun S2 y3 => ?_⟩
      refine ⟨S2, ss ++ (fs.drop (di % M).toNat).take 1, _, _, rfl, ((s7.trans s8).trans s9).upd y3, by rw [List.map_append]; exact yaa, ?_, ?_, ?_, ?_⟩
      · rw [List.nodup_append]
        refine ⟨nd, ?_, fun x hx y hy z => ?_⟩
        · cases (fs.drop (di % M).toNat) <;> simp
        · subst z
          exact (hm (List.mem_of_mem_drop (List.mem_of_mem_take hy))).2.2 hx
      · rw [List.length_append, List.length_take, List.length_drop]
        by_cases hlt : ss.length < n
        · have hne := hsome hlt
          have := hM1 hne
          omega
        · omega
      · rw [List.length_append, List.length_take]; omega
      · intro x hx
        rcases List.mem_append.mp hx with hx | hx
        · exact hin x hx
        · have := hm (List.mem_of_mem_drop (List.mem_of_mem_take hx))
          exact ⟨this.1, this.2.1⟩
    · rintro σ H7 ⟨S, ss, o6, o7, rfl, s7, hS, nd, l1, l2, hin⟩
      have ok : okSome ss n := ⟨nd, by simpa using l1, by simpa using l2, hin⟩
      refine ⟨_, rfl, dp, _, _, _, rfl, rfl, SqL.of (s7 _ _ hdp), qaf 0 (qbd g0), _, _, rfl, rfl, _, rfl, by omega, by omega, fun D hD2 => yds (n := ((1 : Int) + e0).toNat) (fun j H' => ∃ us hs, Same H7 H' ∧ H' D = some (.lst us) ∧ HsV H' us hs ∧ hs.length = j ∧ Oks hs ∧ ∀ h ∈ hs, ∀ c ∈ h.c, c ∈ ss) ⟨[], [], (Same.refl H7).upd hD2, yaa, ⟨rfl, fun i v h a => by simp at a⟩, rfl, (fun _ h => nomatch h), (fun _ h => nomatch h)⟩ ?_ ?_⟩
      · rintro H8 ⟨us, hs, s8, e8, v8, hl8, ok8, hm8⟩
        refine ⟨by show _ ≤ _; simp, ?_⟩
        refine k D us hs ss H8 ((s15.trans s7).trans s8) ((s15.trans s7).free hD2) e8 v8 ⟨by omega, ok8, by simpa using l2, hm8⟩ (by omega) ?_
        intro h hh c hc
        exact hin c (hm8 h hh c hc)
      · rintro j H8 hj ⟨us, hs, s8, e8, v8, hl8, ok8, hm8⟩
        refine ⟨by show j < _; simpa using hj, ?_⟩
        rintro x H9 ⟨rfl, rfl⟩
        refine ⟨qbc.set (qbc.refl _) rfl, yes ?_⟩
        have hj2 : j ≤ 2 := by omega
        refine ⟨_, rfl, _, rfl, _, _, rfl, rfl, .inl ⟨by decide, by decide⟩, _, _, rfl, rfl, _, rfl, _, rfl, _, _, rfl, rfl, .inl ⟨by decide, by decide⟩, _, _, rfl, rfl, _, rfl, dp, _, rfl, SqL.of (s8 _ _ (s7 _ _ hdp)), fun q w1 => ?_⟩
        have ecut : cutV (ds.map V.int) (some ((4 : Int) + 5 * ((0 : Int) + (j : Int)))) (some ((9 : Int) + 5 * ((0 : Int) + (j : Int)))) = [.int (ds.getD (4 + 5 * j) 0), .int (ds.getD (4 + 5 * j + 1) 0), .int (ds.getD (4 + 5 * j + 2) 0), .int (ds.getD (4 + 5 * j + 3) 0), .int (ds.getD (4 + 5 * j + 4) 0)] := by
          rw [show (4 : Int) + 5 * ((0 : Int) + (j : Int)) = ((4 + 5 * j : Nat) : Int) by omega, show (9 : Int) + 5 * ((0 : Int) + (j : Int)) = ((9 + 5 * j : Nat) : Int) by omega, qj9, List.length_map, dl, ← List.map_drop, ← List.map_take,
            show min (9 + 5 * j) 19 - min (4 + 5 * j) 19 = 5 by omega, show min (4 + 5 * j) 19 = 4 + 5 * j by omega, take5 (by omega)]
          rfl
        have dig : ∀ (o : Nat) (z : Int), ([3, (n : Int), n, n, 10, 6, 6, 2, 2, 10, 6, 6, 2, 2, 10, 6, 6, 2, 2] : List Int)[4 + 5 * j + o]? = some z → 0 ≤ ds.getD (4 + 5 * j + o) 0 ∧ ds.getD (4 + 5 * j + o) 0 < z := fun o z hz => by
          obtain ⟨d, h1, h2, h3⟩ := hD.get hz
          rw [List.getD_eq_getElem?_getD, h1]
          exact ⟨h2, h3⟩
        have z0 := dig 0 10 (by rcases (by omega : j = 0 ∨ j = 1 ∨ j = 2) with rfl | rfl | rfl <;> rfl)
        have z1 := dig 1 6 (by rcases (by omega : j = 0 ∨ j = 1 ∨ j = 2) with rfl | rfl | rfl <;> rfl)
        have z2 := dig 2 6 (by rcases (by omega : j = 0 ∨ j = 1 ∨ j = 2) with rfl | rfl | rfl <;> rfl)
        have z3 := dig 3 2 (by rcases (by omega : j = 0 ∨ j = 1 ∨ j = 2) with rfl | rfl | rfl <;> rfl)
        have z4 := dig 4 2 (by rcases (by omega : j = 0 ∨ j = 1 ∨ j = 2) with rfl | rfl | rfl <;> rfl)
        have s9 := (Same.refl H9).upd (o := .lst (cutV (ds.map V.int) (some ((4 : Int) + 5 * ((0 : Int) + (j : Int)))) (some ((9 : Int) + 5 * ((0 : Int) + (j : Int)))))) w1
        have f9 := yaa (H := H9) (a := q) (o := .lst (cutV (ds.map V.int) (some ((4 : Int) + 5 * ((0 : Int) + (j : Int)))) (some ((9 : Int) + 5 * ((0 : Int) + (j : Int))))))
        revert s9 f9
        generalize hHA : upd H9 q (.lst (cutV (ds.map V.int) (some ((4 : Int) + 5 * ((0 : Int) + (j : Int)))) (some ((9 : Int) + 5 * ((0 : Int) + (j : Int)))))) = HA
        intro s9 f9
        rw [ecut] at f9
        refine ⟨_, rfl, q, S, _, _, _, _, _, ss, n, rfl, (by first | exact f9 | (rw [hHA]; exact f9)), z0.1, z0.2, z1.1, z2.1, z3.1, z3.2, z4.1, z4.2, (by first | exact s9 _ _ (s8 _ _ hS) | (rw [hHA]; exact s9 _ _ (s8 _ _ hS))), ok, by omega, fun v h ns HB sB hv nv oh hmem => ?_⟩
        have sB' : Same HA HB := by first | exact sB | (rw [hHA] at sB; exact sB)
        have s9B := s9.trans sB'
        refine ⟨_, s9B _ _ e8, qc2 (by have := v8.len; omega), us ++ [v], hs ++ [h], (s8.trans s9B).at hD2, yaa, ?_, by simp [hl8], ?_, ?_⟩
        · have keep : ∀ u g, HAt HB u g → HAt (upd HB D (.lst (us ++ [v]))) u g := fun u g ⟨a, e, ha⟩ => ⟨a, e, by rw [qag (fun z => by subst z; rw [s9B _ _ e8] at ha; cases ha)]; exact ha⟩
          have v9 := v8.same s9B
          exact HsV.snoc ⟨v9.len, fun i u g h1 h2 => keep u g (v9.at_ i u g h1 h2)⟩ (keep v h hv)
        · intro g hg
          rcases List.mem_append.mp hg with hg | hg
          · exact ok8 g hg
          · rw [List.mem_singleton.mp hg]; exact ⟨ns, oh⟩
        · intro g hg
          rcases List.mem_append.mp hg with hg | hg
          · exact hm8 g hg
          · rw [List.mem_singleton.mp hg]; exact hmem
end
def fsM (L Cc : Addr) : List (Str × V) := [("harms", .ref L), ("cells", .ref Cc)]
structure CM (K : PySem.W.Frag) (C : Addr) : Prop where
  c : Cls K C
  nh : qeh K C "harms"
  nc : qeh K C "cells"
structure MemO (H : Hp) (C m L Cc : Addr) (us : List V) (hs : List Hm) (cs : List Int) : Prop where
  o : ∃ dx, H m = some (.ins C dx (fsM L Cc))
  m : Mem H L Cc us hs cs
theorem lk_h {L Cc : Addr} : (fsM L Cc).lookup ("harms" : Str) = some (V.ref L) := by
  unfold fsM
  rw [List.lookup_cons, show (("harms" : Str) == "harms") = true by decide +kernel]
theorem lk_c {L Cc : Addr} : (fsM L Cc).lookup ("cells" : Str) = some (V.ref Cc) := by
  unfold fsM
  rw [List.lookup_cons, show (("cells" : Str) == "harms") = false by decide +kernel, List.lookup_cons, show (("cells" : Str) == "cells") = true by decide +kernel]
theorem lk_n {L Cc : Addr} {f : Str} (h1 : (f == ("harms" : Str)) = false := by decide +kernel) (h2 : (f == ("cells" : Str)) = false := by decide +kernel) : (fsM L Cc).lookup f = none := by
  unfold fsM
  rw [List.lookup_cons, h1, List.lookup_cons, h2]
  rfl
section
variable {P : Program} {w : World} {K : PySem.W.Frag} {mg : Str → Option Value} {base : Heap} {C : Addr}
def yfi (C : Addr) : Sp := fun vs H Q _ => ∃ m L Cc us hs cs a, vs = [.ref m, .int a] ∧ MemO H C m L Cc us hs cs ∧ 0 ≤ a ∧ a < cs.length ∧ Q .non H
abbrev qai : Stmt := qed (top 51) 1
theorem yau : FnScope ["self", "address"] ["self", "address"] (yab qai) := ⟨rfl, rfl, rfl, by decide +kernel, rfl, by decide +kernel, by decide +kernel⟩
/- slots: 0 self, 1 address -/
theorem yi6 (B : Bl mg) (cm : CM K C) (yat : Has P w K mg base 1 "is_whole" ["thing"] ycd) (F : ycf K C "look_at_address" "Memory.look_at_address" qai ["self", "address"]) : HasM P w K mg base C 2 "look_at_address" ["self", "address"] (yfi C) := by
  refine HasM.ofQ F yau (fun vs H Q E h => ?_) (fun f cdv A outer s H vs Q E hr h => ?_)
  · obtain ⟨m, L, Cc, us, hs, cs, a, rfl, _⟩ := h
    rfl
  · obtain ⟨m, L, Cc, us, hs, cs, a, rfl, ⟨⟨dx, ho⟩, mm⟩, h0, h1, k⟩ := h
    have sc := yau
    refine ⟨_, (yan rfl (yaf (ybc (QW.pt (yir (ydw (qcq (qap yat hr (qak (qab (pv 1)) yad)))) (yir (qa6 op_lt (qab (pv 1)) (qab qac) (yai _)) (qhx (qa6 ygk (qab (pv 1)) (qbv qaj rfl (B.of rfl) boot_len (qfd (qc9 (qab (pv 0)) rfl) yad)) (yai _))))))
        (yaf (qd3 qcf))
        qa1))), ?_⟩
    refine ⟨_, rfl, a, rfl, _, rfl, iteN rfl ?_⟩
    refine ⟨_, rfl, _, _, rfl, rfl, _, rfl, qbu (by omega) ?_⟩
    refine ⟨_, rfl, _, rfl, m, C, dx, _, _, rfl, ho, cm.c, cm.nc, lk_c, Cc, _, rfl, .inl (SqL.of mm.hc), _, _, rfl, rfl, _, rfl, qbu (by rw [List.length_map]; omega) ?_⟩
    exact k
abbrev ya4 : Stmt := qed (top 51) 2
theorem ydk : FnScope ["self", "address"] ["self", "address"] (yab ya4) := ⟨rfl, rfl, rfl, by decide +kernel, rfl, by decide +kernel, by decide +kernel⟩
/- slots: 0 self, 1 address -/
def qcl : Sp := fun vs H Q _ => ∃ b, vs = [.int (b2i b)] ∧ ∀ H', Same H H' → Q .non H'
abbrev ya9 : Stmt := top 50
theorem qb1 : FnScope ["thing"] ["thing"] (yab ya9) := ⟨rfl, rfl, rfl, by decide +kernel, rfl, by decide +kernel, by decide +kernel⟩
/- slots: 0 thing -/
theorem yfs (qbr : Has P w K mg base 2 "is_bit" ["thing"] qd1) (F : FnAt K mg "look_at_bit" ya9 ["thing"]) : Has P w K mg base 3 "look_at_bit" ["thing"] qcl := by
  refine Has.ofQ F qb1 (fun vs H Q E h => ?_) (fun f cdv A outer s H vs Q E hr h => ?_)
  · obtain ⟨b, rfl, _⟩ := h
    rfl
  · obtain ⟨b, rfl, k⟩ := h
    have sc := qb1
    refine ⟨_, (yan rfl (yaf (ybc (ydw (qcq (qap qbr hr (qak (qab (pv 0)) yad))))
        (yaf (qd3 qcf))
        qa1))), ?_⟩
    exact ⟨_, rfl, b, rfl, fun H' s' => ⟨_, rfl, iteN rfl (k H' s')⟩⟩
def qf1 (C : Addr) : Sp := fun vs H Q _ => ∃ m L Cc us hs cs a b, vs = [.ref m, .int a, .int (b2i b)] ∧ MemO H C m L Cc us hs cs ∧ InR hs cs.length ∧ 0 ≤ a ∧ a < cs.length ∧ ∀ H', UpC H Cc (qhk hs cs a (b2i b)) H' → Q .non H'
abbrev qaq : Stmt := qed (top 51) 3
theorem ya8 : FnScope ["self", "address", "bit"] ["self", "address", "bit"] (yab qaq) := ⟨rfl, rfl, rfl, by decide +kernel, rfl, by decide +kernel, by decide +kernel⟩
/- slots: 0 self, 1 address, 2 bit -/
def yfy (C : Addr) : Sp := fun vs H Q _ => ∃ m L Cc us hs cs, vs = [.ref m] ∧ MemO H C m L Cc us hs cs ∧ ∀ D, H D = none → Q (.ref D) (upd H D (.lst (cs.map V.int)))
abbrev qaz : Stmt := qed (top 51) 4
theorem qdb : FnScope ["self"] ["self"] (yab qaz) := ⟨rfl, rfl, rfl, by decide +kernel, rfl, by decide +kernel, by decide +kernel⟩
/- slots: 0 self -/
theorem yil (B : Bl mg) (cm : CM K C) (F : ycf K C "holds" "Memory.holds" qaz ["self"]) : HasM P w K mg base C 1 "holds" ["self"] (yfy C) := by
  refine HasM.ofQ F qdb (fun vs H Q E h => ?_) (fun f cdv A outer s H vs Q E hr h => ?_)
  · obtain ⟨m, L, Cc, us, hs, cs, rfl, _⟩ := h
    rfl
  · obtain ⟨m, L, Cc, us, hs, cs, rfl, ⟨⟨dx, ho⟩, mm⟩, k⟩ := h
    have sc := qdb
    refine ⟨_, (yan rfl (yaf (qay (qbk yb3 rfl (B.of rfl) boot_list (qfd (qc9 (qab (pv 0)) rfl) yad))))), ?_⟩
    exact ⟨_, rfl, m, C, dx, _, _, rfl, ho, cm.c, cm.nc, lk_c, Cc, _, rfl, .inl (SqL.of mm.hc), k⟩
def yd1 (C : Addr) : Sp := fun vs H Q _ => ∃ (x dx L0 C0 : Addr) (us : List V) (hs : List Hm) (S cs : List Int), vs = [.ref x, .int (cs.length : Nat), .ref L0, .ref C0] ∧ H x = some (.ins C dx []) ∧ H L0 = some (.lst us) ∧ HsV H us hs ∧ okHs hs S ∧ InR hs cs.length ∧ H C0 = some (.lst (cs.map V.int)) ∧ bits cs ∧ 1 ≤ cs.length ∧ cs.length ≤ 64 ∧
  ∀ (L Cc : Addr) (H' : Hp), (∀ b u, b ≠ x → H b = some u → H' b = some u) → H L = none → H Cc = none → MemO H' C x L Cc us hs (qgg hs cs) → Q .non H'
abbrev qam : Stmt := qed (top 51) 0
theorem yaw : FnScope ["self", "size", "harms", "contents"] ["self", "size", "harms", "contents"] (yab qam) := ⟨rfl, rfl, rfl, by decide +kernel, rfl, by decide +kernel, by decide +kernel⟩
/- slots: 0 self, 1 size, 2 harms, 3 contents -/
theorem yjf (B : Bl mg) (cm : CM K C) (yax : Has P w K mg base 8 "look_at_memory" ["size", "harms", "contents"] qbg) (ydy : Has P w K mg base 3 "settle" ["harms", "cells"] qd2) (F : ycf K C "__init__" "Memory.__init__" qam ["self", "size", "harms", "contents"]) : HasM P w K mg base C 9 "__init__" ["self", "size", "harms", "contents"] (yd1 C) := by
  refine HasM.ofQ F yaw (fun vs H Q E h => ?_) (fun f cdv A outer s H vs Q E hr h => ?_)
  · obtain ⟨x, dx, L0, C0, us, hs, S, cs, rfl, _⟩ := h
    rfl
  · obtain ⟨x, dx, L0, C0, us, hs, S, cs, rfl, hx, hL, hv, ok, hi, hC, hb, l1, l64, k⟩ := h
    have sc := yaw
    refine ⟨_, (yan rfl (qad (ybi (qap yax hr (qak (qab (pv 1)) (qak (qab (pv 2)) (qak (qab (pv 3)) yad)))))
      (qad (qif (qab (pv 0)) (qbk yb3 rfl (B.of rfl) boot_list (qak (qab (pv 2)) yad)) rfl)
      (qad (qif (qab (pv 0)) (qbk yb3 rfl (B.of rfl) boot_list (qak (qab (pv 3)) yad)) rfl)
      (yaf (ybi (qap ydy hr (qfd (qc9 (qab (pv 0)) rfl) (qfd (qc9 (qab (pv 0)) rfl) yad))))))))), ?_⟩
    refine ⟨_, rfl, _, rfl, _, rfl, L0, us, hs, S, C0, cs, rfl, hL, hv, ok, hi, hC, hb, l1, l64, fun H1 s1 => ?_⟩
    refine ⟨_, rfl, L0, _, rfl, .inl (SqL.of (s1 _ _ hL)), fun L n1 => ?_⟩
    have s2 : Same H1 (upd H1 L (.lst us)) := (Same.refl H1).upd n1
    have f2 : upd H1 L (.lst us) L = some (.lst us) := yaa
    revert s2 f2
    generalize upd H1 L (.lst us) = H2
    intro s2 f2
    have s12 := s1.trans s2
    refine ⟨_, rfl, x, C, dx, _, rfl, s12 _ _ hx, cm.c, cm.nh, by simp, ?_⟩
    have nLx : L ≠ x := fun z => by subst z; rw [s1 _ _ hx] at n1; cases n1
    have u3 : ∀ b u, b ≠ x → H2 b = some u → upd H2 x (.ins C dx (putF "harms" (.ref L) [])) b = some u := fun b u h e => by rw [qag h]; exact e
    have f3 : upd H2 x (.ins C dx (putF "harms" (.ref L) [])) x = some (.ins C dx [("harms", .ref L)]) := yaa
    revert u3 f3
    generalize upd H2 x (.ins C dx (putF "harms" (.ref L) [])) = H3
    intro u3 f3
    have nx : ∀ {b : Addr} {xs : List V}, H b = some (.lst xs) → b ≠ x := fun e z => by subst z; rw [hx] at e; cases e
    refine ⟨_, rfl, C0, _, rfl, .inl (SqL.of (u3 _ _ (nx hC) (s12 _ _ hC))), fun Cc n4 => ?_⟩
    have nCx : Cc ≠ x := fun z => by subst z; rw [f3] at n4; cases n4
    have nLC : L ≠ Cc := fun z => by subst z; rw [u3 _ _ nLx f2] at n4; cases n4
    have s4 : Same H3 (upd H3 Cc (.lst (cs.map V.int))) := (Same.refl H3).upd n4
    have f4 : upd H3 Cc (.lst (cs.map V.int)) Cc = some (.lst (cs.map V.int)) := yaa
    revert s4 f4
    generalize upd H3 Cc (.lst (cs.map V.int)) = H4
    intro s4 f4
    refine ⟨_, rfl, x, C, dx, _, rfl, s4 _ _ f3, cm.c, cm.nc, by simp, ?_⟩
    have u5 : ∀ b u, b ≠ x → H4 b = some u → upd H4 x (.ins C dx (putF "cells" (.ref Cc) [("harms", .ref L)])) b = some u := fun b u h e => by rw [qag h]; exact e
    have f5 : upd H4 x (.ins C dx (putF "cells" (.ref Cc) [("harms", .ref L)])) x = some (.ins C dx (fsM L Cc)) := by
      rw [yaa]
      have : putF "cells" (V.ref Cc) [("harms", .ref L)] = fsM L Cc := by
        unfold fsM putF
        rw [if_neg (by decide +kernel)]
        rfl
      rw [this]
    revert u5 f5
    generalize upd H4 x (.ins C dx (putF "cells" (.ref Cc) [("harms", .ref L)])) = H5
    intro u5 f5
    have hc0 : H Cc = none := by
      cases e : H Cc with
      | none => rfl
      | some u => have := u3 _ _ nCx (s12 _ _ e); rw [n4] at this; cases this
    have hl0 : H L = none := s1.free n1
    have up : ∀ b u, b ≠ x → H b = some u → H5 b = some u := fun b u h e => u5 _ _ h (s4 _ _ (u3 _ _ h (s12 _ _ e)))
    have m5 : Mem H5 L Cc us hs cs := ⟨nLC, u5 _ _ nLx (s4 _ _ (u3 _ _ nLx f2)), ⟨hv.len, fun i v h a b => by
      obtain ⟨z, e, hz⟩ := hv.at_ i v h a b
      exact ⟨z, e, up _ _ (fun q => by subst q; rw [hx] at hz; cases hz) hz⟩⟩, ok.ok, u5 _ _ nCx f4⟩
    refine ⟨_, rfl, x, C, dx, _, _, rfl, f5, cm.c, cm.nh, lk_h, _, rfl, x, C, dx, _, _, rfl, f5, cm.c, cm.nc, lk_c, L, Cc, us, hs, cs, rfl, m5, hi, l64, ?_⟩
    refine k L Cc _ (fun b u h e => ?_) hl0 hc0 ⟨⟨dx, ?_⟩, m5.upd _⟩
    · rw [qag (fun z => by subst z; rw [hc0] at e; cases e)]
      exact up b u h e
    · rw [qag (fun z => nCx z.symm)]
      exact f5
end
def ye6 : PyData → Bool | .int _ => true | _ => false
def bitD : PyData → Bool | .int i => decide (i = 0 ∨ i = 1) | _ => false
def oneD (xs : List V) : PyData → Bool | .str x => inV (.str x) xs | _ => false
section
variable {P : Program} {w : World} {K : PySem.W.Frag} {mg : Str → Option Value} {base : Heap}
def qdz : Sp := fun vs H Q _ => ∃ v d, vs = [v] ∧ AtX H v d ∧ Q (.bl (ye6 d)) H
theorem og_whole (B : Bl mg) (F : FnAt K mg "is_whole" yb0 ["thing"]) : Has P w K mg base 1 "is_whole" ["thing"] qdz := by
  refine Has.ofQ F ycr (fun vs H Q E h => ?_) (fun f cdv A outer s H vs Q E hr h => ?_)
  · obtain ⟨v, d, rfl, _⟩ := h
    rfl
  · obtain ⟨v, d, rfl, hv, q⟩ := h
    have sc := ycr
    refine ⟨_, (yan rfl (yaf (qay (qab (ya6 (qae qba rfl (B.of rfl) boot_isinstance (qaa (pv 0) (qaa (ybm (v := .ty "int") rfl (B.of rfl) boot_int rfl) yac))) (qbw (pe_not (qae qba rfl (B.of rfl) boot_isinstance (qaa (pv 0) (qaa (ybm (v := .ty "bool") rfl (B.of rfl) boot_bool rfl) yac)))))))))), ?_⟩
    refine ⟨_, rfl, _, _, _, _, rfl, hv.ty, kit_int d, _, rfl, ?_⟩
    cases hi : isInt d with
    | false =>
      have e : ye6 d = false := by cases d <;> first | rfl | cases hi
      rw [e] at q
      exact iteF q
    | true =>
      refine iteT ⟨_, rfl, _, _, _, _, rfl, hv.ty, kit_bl d, _, rfl, ?_⟩
      have e : ye6 d = !isBl d := by cases d <;> first | rfl | cases hi
      rw [e] at q
      exact q
def yh6 : Sp := fun vs H Q _ => ∃ v d, vs = [v] ∧ AtX H v d ∧ ∀ H', Same H H' → Q (.bl (bitD d)) H'
theorem og_bit (yat : Has P w K mg base 1 "is_whole" ["thing"] qdz) (F : FnAt K mg "is_bit" qco ["thing"]) : Has P w K mg base 2 "is_bit" ["thing"] yh6 := by
  refine Has.ofQ F qdy (fun vs H Q E h => ?_) (fun f cdv A outer s H vs Q E hr h => ?_)
  · obtain ⟨v, d, rfl, _⟩ := h
    rfl
  · obtain ⟨v, d, rfl, hv, q⟩ := h
    have sc := qdy
    refine ⟨_, (yan rfl (yaf (qay (qab (ya6 (qah yat hr (qaa (pv 0) yac)) (qbw (qat qb2 (pv 0) (yeg (qaa qac (qaa qac yac))) (by with_unfolding_all rfl)))))))), ?_⟩
    refine ⟨_, rfl, v, d, rfl, hv, _, rfl, ?_⟩
    cases hw : ye6 d with
    | false =>
      have e : bitD d = false := by cases d <;> first | rfl | cases hw
      rw [e] at q
      exact iteF (q H (Same.refl H))
    | true =>
      obtain ⟨i, rfl⟩ : ∃ i, d = .int i := by cases d <;> first | exact ⟨_, rfl⟩ | cases hw
      have ev : v = .int i := by
        rcases hv with h | ⟨e, _⟩
        · exact h.intEq
        · cases e
      subst ev
      refine iteT ⟨_, rfl, (by show 2 ≤ sizeLine; decide), fun t ht => ⟨t, _, rfl, .inr (SqT.of yaa), rfl, by decide, ?_⟩⟩
      have e : inV (.int i) [.int 0, .int 1] = bitD (.int i) := by
        unfold bitD
        show ((0 == i) || ((1 == i) || false)) = _
        rw [Bool.eq_iff_iff, decide_eq_true_eq, Bool.or_false, Bool.or_eq_true, beq_iff_eq, beq_iff_eq]
        constructor
        · rintro (h | h)
          · exact .inl h.symm
          · exact .inr h.symm
        · rintro (h | h)
          · exact .inl h.symm
          · exact .inr h.symm
      show Q (.bl (inV (.int i) [.int 0, .int 1])) _
      rw [e]
      exact q _ ((Same.refl H).upd ht)
def sg_one (K : PySem.W.Frag) : Sp := fun vs H Q _ => ∃ v d a xs, vs = [v, .ref a] ∧ AtX H v d ∧ (∀ H', SqT K H' a xs) ∧ xs.all yc9 = true ∧ Q (.bl (oneD xs d)) H
theorem og_one (B : Bl mg) (F : FnAt K mg "is_one_of" qbn ["thing", "words"]) : Has P w K mg base 1 "is_one_of" ["thing", "words"] (sg_one K) := by
  refine Has.ofQ F yce (fun vs H Q E h => ?_) (fun f cdv A outer s H vs Q E hr h => ?_)
  · obtain ⟨v, d, a, xs, rfl, _⟩ := h
    rfl
  · obtain ⟨v, d, a, xs, rfl, hv, ha, hx, q⟩ := h
    have sc := yce
    refine ⟨_, (yan rfl (yaf (qay (qab (ya6 (qae qba rfl (B.of rfl) boot_isinstance (qaa (pv 0) (qaa (ybm (v := .ty "str") rfl (B.of rfl) boot_str rfl) yac))) (qbw (qat qb2 (pv 0) (pv 1) (by with_unfolding_all rfl)))))))), ?_⟩
    refine ⟨_, rfl, _, _, _, _, rfl, hv.ty, qjq d, _, rfl, ?_⟩
    cases hs : isStr d with
    | false =>
      have e : oneD xs d = false := by cases d <;> first | rfl | cases hs
      rw [e] at q
      exact iteF q
    | true =>
      obtain ⟨x, rfl⟩ : ∃ x, d = .str x := by cases d <;> first | exact ⟨_, rfl⟩ | cases hs
      have ev : v = .str x := by
        rcases hv with h | ⟨e, _⟩
        · exact h.strEq
        · cases e
      subst ev
      exact iteT ⟨_, rfl, _, rfl, a, xs, rfl, .inr (ha _), rfl, hx, q⟩
def ykd : PyData → Bool | .int i => decide (0 ≤ i ∧ i < 64) | _ => false
def yj6 : Sp := fun vs H Q _ => ∃ v d, vs = [v] ∧ AtX H v d ∧ Q (.bl (ykd d)) H
theorem og_cell (qbf : ∃ t, mg "MOST_CELLS" = some (.int 64 t)) (yat : Has P w K mg base 1 "is_whole" ["thing"] qdz) (F : FnAt K mg "is_cell" yb9 ["thing"]) : Has P w K mg base 2 "is_cell" ["thing"] yj6 := by
  refine Has.ofQ F yde (fun vs H Q E h => ?_) (fun f cdv A outer s H vs Q E hr h => ?_)
  · obtain ⟨v, d, rfl, _⟩ := h
    rfl
  · obtain ⟨v, d, rfl, hv, q⟩ := h
    have sc := yde
    refine ⟨_, (yan rfl (yaf (qay (qab (ya6 (qah yat hr (qaa (pv 0) yac)) (ya6 (qat ygk (pv 0) qac (yai _)) (qbw (qat op_lt (pv 0) (qc4 qbf) (yai _))))))))), ?_⟩
    refine ⟨_, rfl, v, d, rfl, hv, _, rfl, ?_⟩
    cases hw : ye6 d with
    | false =>
      have e : ykd d = false := by cases d <;> first | rfl | cases hw
      rw [e] at q
      exact iteF q
    | true =>
      obtain ⟨i, rfl⟩ : ∃ i, d = .int i := by cases d <;> first | exact ⟨_, rfl⟩ | cases hw
      have ev : v = .int i := by
        rcases hv with h | ⟨e, _⟩
        · exact h.intEq
        · cases e
      subst ev
      have e : ykd (.int i) = decide (0 ≤ i ∧ i < 64) := rfl
      rw [e] at q
      refine iteT ⟨_, rfl, _, _, rfl, rfl, _, rfl, ?_⟩
      by_cases h0 : 0 ≤ i
      · refine iteD h0 ⟨_, rfl, _, _, rfl, rfl, ?_⟩
        rw [show decide (0 ≤ i ∧ i < 64) = decide (i < 64) by simp [h0]] at q
        exact q
      · refine qbu h0 ?_
        rw [decide_eq_false (fun z => h0 z.1)] at q
        exact q
def qdh (nm : Str) (d : PyData) : Bool := if nm = "cell" then ykd d else if nm = "bit" then bitD d else oneD [.str "and", .str "or"] d
def qi1 : Sp := fun vs H Q _ => ∃ nm v d, vs = [.str nm, v] ∧ AtX H v d ∧ ∀ H', Same H H' → Q (.bl (qdh nm d)) H'
theorem og_part (qea : GTup K mg "JOININGS" [.str "and", .str "or"]) (yex : Has P w K mg base 2 "is_cell" ["thing"] yj6) (qbr : Has P w K mg base 2 "is_bit" ["thing"] yh6) (qdq : Has P w K mg base 1 "is_one_of" ["thing", "words"] (sg_one K)) (F : FnAt K mg "is_part" qca ["name", "thing"]) : Has P w K mg base 3 "is_part" ["name", "thing"] qi1 := by
  refine Has.ofQ F ydg (fun vs H Q E h => ?_) (fun f cdv A outer s H vs Q E hr h => ?_)
  · obtain ⟨nm, v, d, rfl, _⟩ := h
    rfl
  · obtain ⟨nm, v, d, rfl, hv, q⟩ := h
    have sc := ydg
    refine ⟨_, (yan rfl (qad (ybc (qa6 ybk (qab (pv 0)) (qab yal) (yai _))
        (yaf (qay (qap yex hr (qak (qab (pv 1)) yad))))
        qa1)
      (qad (ybc (qa6 ybk (qab (pv 0)) (qab yal) (yai _))
        (yaf (qay (qap qbr hr (qak (qab (pv 1)) yad))))
        qa1)
      (yaf (qay (qap qdq hr (qak (qab (pv 1)) (qak (qab (qi8 qea)) yad)))))))), ?_⟩
    unfold qdh at q
    refine ⟨_, rfl, rfl, _, rfl, ?_⟩
    by_cases h1 : nm = "cell"
    · rw [if_pos h1] at q
      exact iteB (by rw [h1]; decide +kernel) ⟨_, rfl, v, d, rfl, hv, q H (Same.refl H)⟩
    · rw [if_neg h1] at q
      refine iteN (by simpa using h1) ⟨_, rfl, rfl, _, rfl, ?_⟩
      by_cases h2 : nm = "bit"
      · rw [if_pos h2] at q
        exact iteB (by rw [h2]; decide +kernel) ⟨_, rfl, v, d, rfl, hv, q⟩
      · rw [if_neg h2] at q
        exact iteN (by simpa using h2) ⟨_, rfl, fun g hg => ⟨v, d, g, _, rfl, hv, hg, by decide, q H (Same.refl H)⟩⟩
def yg9 : PyData → Bool | .tuple (.str x :: _) => KTD.inKeys x tabP | _ => false
def yjt : Sp := fun vs H Q _ => ∃ v d, vs = [v] ∧ AtX H v d ∧ Q (.bl (yg9 d)) H
theorem og_word (B : Bl mg) {aP : Addr} (gP : mg "PARTS" = some (.ref aP)) (TP : TabK K aP tabP) (F : FnAt K mg "has_word" qb0 ["thing"]) : Has P w K mg base 1 "has_word" ["thing"] yjt := by
  refine Has.ofQ F yco (fun vs H Q E h => ?_) (fun f cdv A outer s H vs Q E hr h => ?_)
  · obtain ⟨v, d, rfl, _⟩ := h
    rfl
  · obtain ⟨v, d, rfl, hv, q⟩ := h
    have sc := yco
    refine ⟨_, (yan rfl (yaf (qay (qab (ya6 (qae qba rfl (B.of rfl) boot_isinstance (qaa (pv 0) (qaa (ybm (v := .ty "tuple") rfl (B.of rfl) boot_tuple rfl) yac))) (ya6 (qat ygi (qae qaj rfl (B.of rfl) boot_len (qaa (pv 0) yac)) qac (yai _)) (ya6 (qae qba rfl (B.of rfl) boot_isinstance (qaa (yay yav (pv 0) qac (fun _ _ => rfl)) (qaa (ybm (v := .ty "str") rfl (B.of rfl) boot_str rfl) yac))) (qbw (qat (yh2 (D := tabP)) (yay yav (pv 0) qac (fun _ _ => rfl)) (ya5 (v := .ref aP) rfl gP rfl) (by with_unfolding_all rfl)))))))))), ?_⟩
    refine ⟨_, rfl, _, _, _, _, rfl, hv.ty, kit_tup d, _, rfl, ?_⟩
    cases hs : isTup d with
    | false =>
      have e : yg9 d = false := by cases d <;> first | rfl | cases hs
      rw [e] at q
      exact iteF q
    | true =>
      obtain ⟨ds, rfl⟩ : ∃ ds, d = .tuple ds := by cases d <;> first | exact ⟨_, rfl⟩ | cases hs
      have hv' : At H v (.tuple ds) := by
        rcases hv with h | ⟨e, _⟩
        · exact h
        · cases e
      obtain ⟨a, vs, rfl, ha, hw⟩ := hv'.tupEq
      refine iteT ⟨_, rfl, a, _, rfl, .inr (SqT.of ha), _, _, rfl, rfl, _, rfl, ?_⟩
      cases hw with
      | nil => exact qbu (by simp) q
      | cons h1 rr =>
        rename_i x d1 xs ds1
        refine iteD (by simp) ?_
        refine ⟨_, rfl, a, _, _, _, rfl, rfl, SqT.of ha, qaf 0 rfl, _, _, _, _, rfl, AtX.ty (.inl h1), qjq d1, _, rfl, ?_⟩
        cases hs1 : isStr d1 with
        | false =>
          have e : yg9 (.tuple (d1 :: ds1)) = false := by cases d1 <;> first | rfl | cases hs1
          rw [e] at q
          exact iteF q
        | true =>
          obtain ⟨o, rfl⟩ : ∃ o, d1 = .str o := by cases d1 <;> first | exact ⟨_, rfl⟩ | cases hs1
          have := h1.strEq
          subst this
          exact iteT ⟨_, rfl, a, _, _, _, rfl, rfl, SqT.of ha, qaf 0 rfl, aP, o, rfl, rfl, TP, q⟩
end
structure okP (h : Hm) (ns : List Str) : Prop where
  tab : KTD.datumAt h.w tabP = some (qau h.c.length ns)
  rest : Rest ns h.r
  cl : 1 ≤ h.c.length ∧ h.c.length ≤ 2
  rl : ns.length ≤ 2
  rg : ∀ x ∈ h.c, 0 ≤ x ∧ x < 64
theorem okP.full {h : Hm} {ns : List Str} (o : okP h ns) (nd : h.c.Nodup) : okH h ns := ⟨o.tab, o.rest, o.cl, o.rl, nd, o.rg⟩
theorem okP.len {h : Hm} {ns : List Str} (o : okP h ns) : (h.c.map V.int ++ h.r).length = (qau h.c.length ns).length := by
  unfold qau
  simp [o.rest.len]
theorem okP.cellAt {h : Hm} {ns : List Str} (o : okP h ns) {i : Nat} {x y : V} (hx : (qau h.c.length ns)[i]? = some x) (hy : (h.c.map V.int ++ h.r)[i]? = some y) :
    (x = .str "cell" ∧ ∃ c, h.c[i]? = some c ∧ y = .int c) ∨ (h.c.length ≤ i ∧ ((x = .str "bit" ∧ bitV y) ∨ (x = .str "how" ∧ howV y))) := by
  unfold qau at hx
  by_cases hi : i < h.c.length
  · rw [List.getElem?_append_left (by simpa using hi), List.getElem?_replicate, if_pos hi] at hx
    rw [List.getElem?_append_left (by simpa using hi)] at hy
    obtain ⟨c, hc, rfl⟩ := ycs hy
    exact .inl ⟨(Option.some.inj hx).symm, c, hc, rfl⟩
  · rw [List.getElem?_append_right (by simpa using Nat.le_of_not_lt hi)] at hx
    rw [List.getElem?_append_right (by simpa using Nat.le_of_not_lt hi)] at hy
    simp only [List.length_replicate, List.length_map] at hx hy
    obtain ⟨n, hn, rfl⟩ := ycs hx
    rcases o.rest.get hn hy with ⟨rfl, hb⟩ | ⟨rfl, hb⟩
    · exact .inr ⟨Nat.le_of_not_lt hi, .inl ⟨rfl, hb⟩⟩
    · exact .inr ⟨Nat.le_of_not_lt hi, .inr ⟨rfl, hb⟩⟩
section
variable {P : Program} {w : World} {K : PySem.W.Frag} {mg : Str → Option Value} {base : Heap}
def qfp : Sp := fun vs H Q _ => ∃ v h ns, vs = [v] ∧ HAt H v h ∧ okP h ns ∧ ∀ D H', Same H H' → H D = none → H' D = some (.lst (h.c.map V.int)) → Q (.ref D) H'
theorem yhs (B : Bl mg) (yep : mg "zip" = none) {aP : Addr} (gP : mg "PARTS" = some (.ref aP)) (TP : TabK K aP tabP) (F : FnAt K mg "cells_in" qbz ["harm"]) : Has P w K mg base 1 "cells_in" ["harm"] qfp := by
  refine Has.of F yct (fun vs H Q E h => ?_) (fun f cdv A outer s H vs Q E hr h => ?_)
  · obtain ⟨v, h, ns, rfl, _⟩ := h
    rfl
  · obtain ⟨v, h, ns, rfl, ⟨a, rfl, ha⟩, ok, k⟩ := h
    have sc := yct
    refine ⟨_, (yae (qaw (qc1 rfl (qbl rfl) (M := ["name", "part"]) (ix := [none, none]) (qib rfl yep (qaa (yay (qid (D := tabP)) (ya5 (v := .ref aP) rfl gP rfl) (yay yav (pv 0) qac (fun _ _ => rfl)) (fun _ _ => rfl)) (qaa (qbs yih (pv 0) (ybt qac) qci) yac))) (fun _ _ _ _ => (qgh (K := K) (n := 2) rfl rfl (qa2 (qan (i := 0) (show List.Nodup (["name", "part"] : List Str) by decide +kernel) rfl (Or.inl rfl)) (qa2 (qan (i := 1) (show List.Nodup (["name", "part"] : List Str) by decide +kernel) rfl (Or.inl rfl)) ycu)))) (fun _ _ _ _ => (yge (qar ybk (pv 0) yal (yai _)))) (fun _ _ _ _ => (pv 1))))), ?_⟩
    refine ⟨_, rfl, a, _, _, _, rfl, rfl, SqT.of ha, qaf 0 rfl, aP, h.w, _, rfl, rfl, TP, ok.tab, fun pn hpn => ?_⟩
    refine ⟨_, rfl, _, rfl, a, _, rfl, SqT.of ha, qhv h, fun q hq => ?_⟩
    rw [qf9]
    have s1 : Same H (upd H q (.tup (h.c.map V.int ++ h.r))) := (Same.refl H).upd hq
    have e1 : upd H q (.tup (h.c.map V.int ++ h.r)) q = some (.tup (h.c.map V.int ++ h.r)) := yaa
    revert s1 e1
    generalize upd H q (.tup (h.c.map V.int ++ h.r)) = H1
    intro s1 e1
    refine ⟨true, true, pn, q, _, _, rfl, hpn _, SqT.of e1, fun D hD => ?_⟩
    refine yev (K := K) (ok.len.symm) (fun i H' => Same H1 H' ∧ H' D = some (.lst ((h.c.take i).map V.int))) ⟨(Same.refl H1).upd hD, yaa⟩ ?_ ?_ ?_
    · rintro i H2 ⟨s2, e2⟩
      exact ⟨hpn _, SqT.of (s2 _ _ e1)⟩
    · rintro H2 ⟨s2, e2⟩
      rw [List.take_of_length_le (by simp [qau])] at e2
      exact k D H2 (s1.trans s2) (s1.free hD) e2
    · rintro i x y p H2 hx hy ⟨s2, e2⟩ hp
      have s3 : Same H2 (upd H2 p (.tup [x, y])) := (Same.refl H2).upd hp
      refine ⟨p, _, rfl, SqT.of yaa, rfl, ?_⟩
      revert s3
      generalize upd H2 p (.tup [x, y]) = H3
      intro s3
      refine ⟨_, _, rfl, _, _, rfl, rfl, qbc.set (qbc.set (qbc.refl _) rfl) rfl, ?_⟩
      rcases ok.cellAt hx hy with ⟨rfl, c, hc, rfl⟩ | ⟨hge, hh⟩
      · refine ⟨_, rfl, rfl, _, rfl, iteB (by decide +kernel) ?_⟩
        refine ⟨_, rfl, _, s3 _ _ e2, qc2 ?_, (s2.trans s3).at hD, ?_⟩
        · have := ok.cl
          simp
          omega
        · rw [yaa, List.take_add_one, hc]; simp
      · have hxn : ∃ nm, x = .str nm ∧ nm ≠ "cell" := by
          rcases hh with ⟨rfl, _⟩ | ⟨rfl, _⟩
          · exact ⟨_, rfl, by decide +kernel⟩
          · exact ⟨_, rfl, by decide +kernel⟩
        obtain ⟨nm, rfl, hnm⟩ := hxn
        refine ⟨_, rfl, rfl, _, rfl, iteN (by simpa using hnm) ?_⟩
        refine ⟨s2.trans s3, ?_⟩
        rw [qha hge]
        exact s3 _ _ e2
end
def ybb (x : Str) : Nat := if x ∈ [("turns" : Str), "sets", "keeps", "other", "both"] then 2 else 1
theorem qjj {x : Str} (h : KTD.inKeys x tabP = true) : ∃ ns : List Str, KTD.datumAt x tabP = some (qau (ybb x) ns) ∧ ns.length ≤ 2 ∧ ∀ n ∈ ns, n = "bit" ∨ n = "how" := by
  have : x = "stuck" ∨ x = "slow" ∨ x = "forgets" ∨ x = "misreads" ∨ x = "turns" ∨ x = "sets" ∨ x = "keeps" ∨ x = "nowhere" ∨ x = "other" ∨ x = "both" := by
    simpa [tabP, KTD.inKeys] using h
  rcases this with rfl | rfl | rfl | rfl | rfl | rfl | rfl | rfl | rfl | rfl
  · exact ⟨["bit"], by decide +kernel, by decide, by decide +kernel⟩
  · exact ⟨["bit"], by decide +kernel, by decide, by decide +kernel⟩
  · exact ⟨["bit"], by decide +kernel, by decide, by decide +kernel⟩
  · exact ⟨["bit"], by decide +kernel, by decide, by decide +kernel⟩
  · exact ⟨["bit"], by decide +kernel, by decide, by decide +kernel⟩
  · exact ⟨["bit", "bit"], by decide +kernel, by decide, by decide +kernel⟩
  · exact ⟨["bit", "bit"], by decide +kernel, by decide, by decide +kernel⟩
  · exact ⟨["bit"], by decide +kernel, by decide, by decide +kernel⟩
  · exact ⟨[], by decide +kernel, by decide, by decide +kernel⟩
  · exact ⟨["how"], by decide +kernel, by decide, by decide +kernel⟩
def ybe : List Str → List PyData → Bool
  | [], [] => true
  | n :: ns, p :: ps => qdh n p && ybe ns ps
  | _, _ => false
theorem qfz : ∀ {nms : List Str} {ps : List PyData}, ybe nms ps = true → ps.length = nms.length
  | [], [], _ => rfl
  | n :: ns, p :: ps, h => by
    have h' : (qdh n p && ybe ns ps) = true := h
    rw [Bool.and_eq_true] at h'
    rw [List.length_cons, List.length_cons, qfz h'.2]
  | [], _ :: _, h => by cases h
  | _ :: _, [], h => by cases h
theorem yfv : ∀ {nms : List Str} {ps : List PyData}, ps.length = nms.length → ybe nms ps = ((nms.zip ps).map fun x => qdh x.1 x.2).all id
  | [], [], _ => rfl
  | n :: ns, p :: ps, h => by
    show (qdh n p && ybe ns ps) = _
    rw [yfv (nms := ns) (ps := ps) (by simpa using h)]
    rfl
  | [], _ :: _, h => by cases h
  | _ :: _, [], h => by cases h
def nmL (n : Nat) (ns : List Str) : List Str := List.replicate n ("cell" : Str) ++ ns
theorem qec (n : Nat) (ns : List Str) : qau n ns = (nmL n ns).map V.str := by simp [qau, nmL]
def intD : PyData → Int | .int i => i | _ => 0
def ybr (n : Nat) (ps : List PyData) : List Int := (ps.take n).map intD
theorem qkc {H : Hp} : ∀ {ns : List Str} {ps : List PyData} {ws : List V}, (∀ n ∈ ns, n = "bit" ∨ n = "how") → AtAll H ws ps → ybe ns ps = true → Rest ns ws
  | [], [], _, _, .nil, _ => .nil
  | n :: ns, p :: ps, _, hn, .cons a r, h => by
    have h' : (qdh n p && ybe ns ps) = true := h
    rw [Bool.and_eq_true] at h'
    have ih := qkc (fun x hx => hn x (List.mem_cons_of_mem _ hx)) r h'.2
    have hp := h'.1
    unfold qdh at hp
    rcases hn n (List.mem_cons_self ..) with rfl | rfl
    · rw [if_neg (by decide +kernel), if_pos rfl] at hp
      obtain ⟨i, rfl⟩ : ∃ i, p = .int i := by cases p <;> first | exact ⟨_, rfl⟩ | exact absurd hp (by simp [bitD])
      have := a.intEq
      subst this
      have hi : i = 0 ∨ i = 1 := of_decide_eq_true hp
      refine .bit ?_ ih
      rcases hi with rfl | rfl
      · exact ⟨false, rfl⟩
      · exact ⟨true, rfl⟩
    · rw [if_neg (by decide +kernel), if_neg (by decide +kernel)] at hp
      obtain ⟨x, rfl⟩ : ∃ x, p = .str x := by cases p <;> first | exact ⟨_, rfl⟩ | exact absurd hp (by simp [oneD])
      have := a.strEq
      subst this
      refine .how ?_ ih
      have h1 : inV (.str x) [.str "and", .str "or"] = true := hp
      have e : ∀ {a b : Str}, ¬ b = a → eqV (V.str a) (V.str b) = false := fun {a b} h => by simp [eqV]; exact fun z => h z.symm
      by_cases h0 : x = "and"
      · exact .inl (by rw [h0])
      by_cases h2 : x = "or"
      · exact .inr (by rw [h2])
      exfalso
      revert h1
      simp [inV, e h0, e h2]
  | [], _ :: _, _, _, _, h => by cases h
  | _ :: _, [], _, _, _, h => by cases h
theorem qih {H : Hp} {ns : List Str} (hn : ∀ x ∈ ns, x = "bit" ∨ x = "how") : ∀ (n : Nat) {ps : List PyData} {ws : List V}, AtAll H ws ps → ybe (nmL n ns) ps = true →
    ws = (ybr n ps).map V.int ++ ws.drop n ∧ Rest ns (ws.drop n) ∧ (ybr n ps).length = n ∧ ∀ x ∈ ybr n ps, 0 ≤ x ∧ x < 64
  | 0, ps, ws, a, h => ⟨rfl, qkc hn a h, rfl, fun x hx => by cases hx⟩
  | n + 1, [], ws, a, h => by
    have h' : ybe ("cell" :: nmL n ns) [] = true := h
    cases h'
  | n + 1, p :: ps, _, .cons a r, h => by
    have h' : (qdh "cell" p && ybe (nmL n ns) ps) = true := h
    rw [Bool.and_eq_true] at h'
    obtain ⟨i1, i2, i3, i4⟩ := qih hn n r h'.2
    have hp := h'.1
    unfold qdh at hp
    rw [if_pos rfl] at hp
    obtain ⟨i, rfl⟩ : ∃ i, p = .int i := by cases p <;> first | exact ⟨_, rfl⟩ | exact absurd hp (by simp [ykd])
    have := a.intEq
    subst this
    have hi : 0 ≤ i ∧ i < 64 := of_decide_eq_true hp
    refine ⟨?_, i2, ?_, fun x hx => ?_⟩
    · show _ = V.int i :: ((ybr n ps).map V.int ++ _)
      rw [List.drop_succ_cons, ← i1]
    · show (intD (.int i) :: ybr n ps).length = _
      rw [List.length_cons, i3]
    · have hx' : x ∈ i :: ybr n ps := hx
      rcases List.mem_cons.mp hx' with rfl | hx'
      · exact hi
      · exact i4 x hx'
theorem yg7 (x : Str) : 1 ≤ ybb x ∧ ybb x ≤ 2 := by
  unfold ybb
  split <;> omega
theorem hm_of {H : Hp} {a : Addr} {x : Str} {ps : List PyData} {ws : List V} {ns : List Str} (ha : H a = some (.tup (.str x :: ws))) (hw : AtAll H ws ps) (ht : KTD.datumAt x tabP = some (qau (ybb x) ns)) (hl : ns.length ≤ 2) (hn : ∀ n ∈ ns, n = "bit" ∨ n = "how") (hp : ybe (nmL (ybb x) ns) ps = true) :
    ∃ h, HAt H (.ref a) h ∧ okP h ns ∧ h.c = ybr (ybb x) ps := by
  obtain ⟨i1, i2, i3, i4⟩ := qih hn (ybb x) hw hp
  have := yg7 x
  refine ⟨⟨x, ybr (ybb x) ps, ws.drop (ybb x)⟩, ⟨a, rfl, ?_⟩, ⟨?_, i2, ?_, hl, i4⟩, rfl⟩
  · unfold hV
    rw [ha]
    show some (HO.tup (V.str x :: ws)) = some (HO.tup (V.str x :: ((ybr (ybb x) ps).map V.int ++ ws.drop (ybb x))))
    rw [← i1]
  · show KTD.datumAt x tabP = some (qau (ybr (ybb x) ps).length ns)
    rw [i3]
    exact ht
  · show 1 ≤ (ybr (ybb x) ps).length ∧ (ybr (ybb x) ps).length ≤ 2
    rw [i3]
    exact this
theorem qig : ∀ (c : List Int), c.length ≤ 2 → decide ((uniq c).length = c.length) = decide c.Nodup
  | [], _ => by rw [yfm List.nodup_nil]; rfl
  | [a], _ => by rw [yfm (by simp)]; simp
  | [a, b], _ => by
    by_cases h : a = b
    · subst h
      have e : uniq [a, a] = [a] := by simp [uniq, ya3]
      rw [e]
      simp
    · have hn : [a, b].Nodup := by simp [h]
      rw [yfm hn, decide_eq_true hn]
      simp
  | _ :: _ :: _ :: _, h => by simp at h
theorem qjl (u : V) (ws : List V) : cutV (u :: ws) (some 1) none = ws := yeq 1
theorem tail_ne1 (u : V) (ws : List V) : ¬ (HT.sIx (u :: ws).length 0 (some 1) = 0 ∧ HT.sIx (u :: ws).length (u :: ws).length none = (u :: ws).length) := by
  rintro ⟨h0, _⟩
  unfold HT.sIx at h0
  simp at h0
section
variable {P : Program} {w : World} {K : PySem.W.Frag} {mg : Str → Option Value} {base : Heap}
def qhy : Sp := fun vs H Q _ => ∃ v x ps n ns, vs = [v] ∧ At H v (.tuple (.str x :: ps)) ∧ KTD.datumAt x tabP = some (qau n ns) ∧ n ≤ 2 ∧ ns.length ≤ 2 ∧ ∀ H', Same H H' → Q (.bl (ybe (nmL n ns) ps)) H'
theorem og_parts (B : Bl mg) (yep : mg "zip" = none) (yem : mg "all" = none) {aP : Addr} (gP : mg "PARTS" = some (.ref aP)) (TP : TabK K aP tabP) (yey : Has P w K mg base 3 "is_part" ["name", "thing"] qi1) (F : FnAt K mg "has_parts" ybn ["thing"]) : Has P w K mg base 4 "has_parts" ["thing"] qhy := by
  refine Has.of F qcg (fun vs H Q E h => ?_) (fun f cdv A outer s H vs Q E hr h => ?_)
  · obtain ⟨v, x, ps, n, ns, rfl, _⟩ := h
    rfl
  · obtain ⟨v, x, ps, n, ns, rfl, hv, ht, hn2, hl2, k⟩ := h
    obtain ⟨a, vs, rfl, ha, hw⟩ := hv.tupEq
    cases hw with
    | cons h1 hw =>
    rename_i u ws
    have := h1.strEq
    subst this
    have hwl := hw.length
    have hnl : (nmL n ns).length = n + ns.length := by simp [nmL]
    have hnm : (qau n ns).length = n + ns.length := by rw [qec, List.length_map, hnl]
    have sc := qcg
    refine ⟨_, (yak (qbq (i := 1) sc.nd rfl (Or.inl rfl) (yay (qid (D := tabP)) (ya5 (v := .ref aP) rfl gP rfl) (yay yav (pv 0) qac (fun _ _ => rfl)) (fun _ _ => rfl)))
      (yae (qaw (ya6 (qat ybk (qae qaj rfl (B.of rfl) boot_len (qaa (pv 0) yac)) (qbi yb8 (qae qaj rfl (B.of rfl) boot_len (qaa (pv 1) yac)) qac) (yai _)) (qbw (qae (ydv rfl) rfl yem qdx (qaa (qc1 rfl (qbl rfl) (M := ["name", "part"]) (ix := [none, none]) (qib rfl yep (qaa (pv 1) (qaa (qbs yih (pv 0) (ybt qac) qci) yac))) (fun _ _ _ _ => (qgh (K := K) (n := 2) rfl rfl (qa2 (qan (i := 0) (show List.Nodup (["name", "part"] : List Str) by decide +kernel) rfl (Or.inl rfl)) (qa2 (qan (i := 1) (show List.Nodup (["name", "part"] : List Str) by decide +kernel) rfl (Or.inl rfl)) ycu)))) (fun _ _ _ _ => qd8) (fun _ _ _ _ => (qah yey hr (qaa (pv 0) (qaa (pv 1) yac))))) yac))))))), ?_⟩
    refine ⟨_, rfl, a, _, _, _, rfl, rfl, SqT.of ha, qaf 0 rfl, aP, x, _, rfl, rfl, TP, ht, fun pn hpn => ?_⟩
    refine ⟨_, rfl, a, _, rfl, .inr (SqT.of ha), _, rfl, pn, _, rfl, .inr (hpn _), _, _, rfl, rfl, rfl, _, rfl, ?_⟩
    by_cases hlen : ps.length = (nmL n ns).length
    rotate_left
    · refine iteN (decide_eq_false (fun z => ?_)) ?_
      · have := V.int.inj z
        rw [List.length_cons, hnm] at this
        omega
      · have e : ybe (nmL n ns) ps = false := by
          cases hb : ybe (nmL n ns) ps with
          | false => rfl
          | true => exact absurd (qfz hb) hlen
        rw [e] at k
        exact k H (Same.refl H)
    refine iteB (decide_eq_true ?_) ?_
    · congr 1
      rw [List.length_cons, hnm]
      omega
    refine ⟨_, rfl, _, rfl, _, rfl, a, _, rfl, SqT.of ha, tail_ne1 _ _, fun q hq => ?_⟩
    rw [qjl]
    have s1 : Same H (upd H q (.tup ws)) := (Same.refl H).upd hq
    have e1 : upd H q (.tup ws) q = some (.tup ws) := yaa
    revert s1 e1
    generalize upd H q (.tup ws) = H1
    intro s1 e1
    refine ⟨true, true, pn, q, _, _, rfl, hpn _, SqT.of e1, fun D hD => ?_⟩
    refine yev (K := K) (xs := qau n ns) (ys := ws) (by omega) (fun i H' => Same H1 H' ∧ H' D = some (.lst (((((nmL n ns).zip ps).take i).map fun z => qdh z.1 z.2).map V.bl))) ⟨(Same.refl H1).upd hD, yaa⟩ ?_ ?_ ?_
    · rintro i H2 ⟨s2, e2⟩
      exact ⟨hpn _, SqT.of (s2 _ _ e1)⟩
    · rintro H2 ⟨s2, e2⟩
      rw [List.take_of_length_le (by rw [List.length_zip]; omega)] at e2
      refine ⟨D, _, rfl, e2, ?_⟩
      rw [← yfv hlen]
      exact k _ (s1.trans s2)
    · rintro i xx y p H2 hx hy ⟨s2, e2⟩ hp
      rw [qec] at hx
      obtain ⟨nm, hnm', rfl⟩ := ycs hx
      obtain ⟨dy, hdy, hay⟩ := hw.get hy
      have hi : i < n + ns.length := by have := (List.getElem?_eq_some_iff.mp hnm').1; omega
      have s3 : Same H2 (upd H2 p (.tup [.str nm, y])) := (Same.refl H2).upd hp
      refine ⟨p, _, rfl, SqT.of yaa, rfl, ?_⟩
      refine ⟨_, _, rfl, _, _, rfl, rfl, qbc.set (qbc.set (qbc.refl _) rfl) rfl, yes ?_⟩
      refine ⟨_, rfl, _, rfl, nm, y, dy, rfl, .inl (hay.same ((s1.trans s2).trans s3)), fun H3 s4 => ?_⟩
      have s23 : Same H2 H3 := s3.trans s4
      refine ⟨_, s23 _ _ e2, qc2 ?_, (s2.trans s23).at hD, ?_⟩
      · rw [List.length_map, List.length_map, List.length_take]
        omega
      · rw [yaa, List.take_add_one, List.getElem?_zip_eq_some (z := (nm, dy)) |>.mpr ⟨hnm', hdy⟩]
        simp
def nmOf (x : Str) : List Str := ((KTD.datumAt x tabP).getD []).filterMap fun v => match v with | .str s => some s | _ => none
theorem qhi {x : Str} {n : Nat} {ns : List Str} (h : KTD.datumAt x tabP = some (qau n ns)) : nmOf x = nmL n ns := by
  unfold nmOf
  rw [h, qec]
  show (List.map V.str (nmL n ns)).filterMap _ = _
  rw [List.filterMap_map]
  exact List.filterMap_some
def qgi : PyData → Bool
  | .tuple (.str x :: ps) => KTD.inKeys x tabP && (ybe (nmOf x) ps && decide (ybr (ybb x) ps).Nodup)
  | _ => false
def yfq : PyData → List Int
  | .tuple (.str x :: ps) => ybr (ybb x) ps
  | _ => []
theorem yjw {d : PyData} (h : yg9 d = true) : ∃ x ps, d = .tuple (.str x :: ps) ∧ KTD.inKeys x tabP = true := by
  match d, h with
  | .tuple (.str x :: ps), h => exact ⟨x, ps, rfl, h⟩
theorem noword {d : PyData} (h : yg9 d = false) : qgi d = false := by
  match d with
  | .tuple (.str x :: ps) =>
    have h' : KTD.inKeys x tabP = false := h
    show (KTD.inKeys x tabP && _) = false
    rw [h']
    rfl
  | .tuple [] => rfl
  | .tuple (.none :: _) => rfl
  | .tuple (.bool _ :: _) => rfl
  | .tuple (.int _ :: _) => rfl
  | .tuple (.list _ :: _) => rfl
  | .tuple (.tuple _ :: _) => rfl
  | .tuple (.dict _ :: _) => rfl
  | .none => rfl
  | .bool _ => rfl
  | .int _ => rfl
  | .str _ => rfl
  | .list _ => rfl
  | .dict _ => rfl
theorem qka {H : Hp} {v : V} {d : PyData} (hv : At H v d) (h : qgi d = true) : ∃ g ns, HAt H v g ∧ okH g ns ∧ g.c = yfq d := by
  have hw : yg9 d = true := by
    cases hq : yg9 d with
    | true => rfl
    | false => rw [noword hq] at h; cases h
  obtain ⟨x, ps, rfl, hk⟩ := yjw hw
  have h' : (KTD.inKeys x tabP && (ybe (nmOf x) ps && decide (ybr (ybb x) ps).Nodup)) = true := h
  rw [Bool.and_eq_true, Bool.and_eq_true] at h'
  obtain ⟨ns, ht, hl, hn⟩ := qjj hk
  obtain ⟨a, vs, rfl, ha, hwa⟩ := hv.tupEq
  cases hwa with
  | cons h1 hwa =>
  have := h1.strEq
  subst this
  have hp := h'.2.1
  rw [qhi ht] at hp
  obtain ⟨g, hg, ok, hc⟩ := hm_of ha hwa ht hl hn hp
  exact ⟨g, ns, hg, ok.full (by rw [hc]; exact of_decide_eq_true h'.2.2), hc⟩
def yjz : Sp := fun vs H Q _ => ∃ v d, vs = [v] ∧ AtX H v d ∧ ∀ H', Same H H' → Q (.bl (qgi d)) H'
theorem og_harm (B : Bl mg) (qc0 : mg "set" = none) (yeb : Has P w K mg base 1 "has_word" ["thing"] yjt) (ydr : Has P w K mg base 4 "has_parts" ["thing"] qhy) (qa7 : Has P w K mg base 1 "cells_in" ["harm"] qfp) (F : FnAt K mg "is_harm" qb9 ["thing"]) : Has P w K mg base 5 "is_harm" ["thing"] yjz := by
  refine Has.of F ydf (fun vs H Q E h => ?_) (fun f cdv A outer s H vs Q E hr h => ?_)
  · obtain ⟨v, d, rfl, _⟩ := h
    rfl
  · obtain ⟨v, d, rfl, hv, k⟩ := h
    have sc := ydf
    refine ⟨_, (yak (qb4 (PW.pt (qi7 (qdk (qcz (qah yeb hr (qaa (pv 0) yac)))) (ygr (qdk (qcz (qah ydr hr (qaa (pv 0) yac)))))))
        (yae (qaw yed))
        ya0)
      (yak (qbq (i := 1) sc.nd rfl (Or.inl rfl) (qah qa7 hr (qaa (pv 0) yac)))
      (yae (qaw (qat ybk (qae qcu rfl (B.of rfl) boot_len (qaa (yc7 (ycn rfl) rfl qc0 ycm (qaa (pv 1) yac)) yac)) (qae qaj rfl (B.of rfl) boot_len (qaa (pv 1) yac)) (yai _)))))), ?_⟩
    refine ⟨_, rfl, v, d, rfl, hv, _, rfl, ?_⟩
    cases hw : yg9 d with
    | false =>
      rw [noword hw] at k
      exact iteT (iteT (k H (Same.refl H)))
    | true =>
      refine iteF ?_
      obtain ⟨x, ps, rfl, hk⟩ := yjw hw
      have hv' : At H v (.tuple (.str x :: ps)) := by
        rcases hv with h | ⟨e, _⟩
        · exact h
        · cases e
      obtain ⟨ns, ht, hl, hn⟩ := qjj hk
      have eh : qgi (.tuple (.str x :: ps)) = (KTD.inKeys x tabP && (ybe (nmOf x) ps && decide (ybr (ybb x) ps).Nodup)) := rfl
      rw [eh, hk, qhi ht, Bool.true_and] at k
      refine ⟨_, rfl, v, x, ps, _, ns, rfl, hv', ht, (yg7 x).2, hl, fun H1 s1 => ⟨_, rfl, ?_⟩⟩
      cases hp : ybe (nmL (ybb x) ns) ps with
      | false =>
        rw [hp] at k
        exact iteB rfl (k H1 s1)
      | true =>
        rw [hp, Bool.true_and] at k
        refine iteN rfl ?_
        obtain ⟨a, vs, rfl, ha, hwa⟩ := (hv'.same s1).tupEq
        cases hwa with
        | cons h1 hwa =>
        have := h1.strEq
        subst this
        obtain ⟨g, hg, ok, hc⟩ := hm_of ha hwa ht hl hn hp
        refine ⟨_, rfl, _, g, ns, rfl, hg, ok, fun D H2 s2 hD e2 => ?_⟩
        refine ⟨_, rfl, D, g.c, rfl, e2, by have := ok.cl; omega, fun p hp => ?_⟩
        refine ⟨p, _, rfl, yaa, ?_⟩
        have s3 : Same H2 (upd H2 p (SetO P w p (uniq g.c))) := (Same.refl H2).upd hp
        refine ⟨_, rfl, D, _, rfl, .inl (SqL.of (s3 _ _ e2)), rfl, ?_⟩
        rw [← hc, ← qig g.c ok.cl.2] at k
        have e : decide (V.int ((uniq g.c).length : Int) = V.int ((g.c.map V.int).length : Int)) = decide ((uniq g.c).length = g.c.length) := by
          rw [List.length_map]
          apply decide_eq_decide.mpr
          constructor
          · intro z; have := V.int.inj z; omega
          · intro z; rw [z]
        rw [e]
        exact k _ ((s1.trans s2).trans s3)
end
def optN : Option Nat → V | none => .non | some n => .int n
def accH (ds : List PyData) (i : Nat) : List Int := (ds.take i).flatMap yfq
def yck (ds : List PyData) (i : Nat) : Bool := !(qgi (ds.getD i .none)) || decide (3 < (uniq (accH ds (i + 1))).length)
def qao : PyData → Option (Option Nat)
  | .list ds => if 3 < ds.length then some none else ((List.range ds.length).find? (yck ds)).map some
  | _ => some none
theorem qff {ds : List PyData} {i : Nat} (hl : ¬ 3 < ds.length) (hi : i < ds.length) (hb : yck ds i = true) (ho : ∀ j, j < i → yck ds j = false) : qao (.list ds) = some (some i) := by
  show (if 3 < ds.length then some none else ((List.range ds.length).find? (yck ds)).map some) = _
  rw [if_neg hl, List.find?_range_eq_some.mpr ⟨hb, by simpa using hi, fun j hj => by rw [ho j hj]; rfl⟩]
  rfl
theorem qe9 {ds : List PyData} (hl : ¬ 3 < ds.length) (ho : ∀ j, j < ds.length → yck ds j = false) : qao (.list ds) = none := by
  show (if 3 < ds.length then some none else ((List.range ds.length).find? (yck ds)).map some) = _
  rw [if_neg hl, List.find?_range_eq_none.mpr fun j hj => by rw [ho j hj]; rfl]
  rfl
theorem yjv {ds : List PyData} {i : Nat} {d : PyData} (h : ds[i]? = some d) : accH ds (i + 1) = accH ds i ++ yfq d := by
  unfold accH
  rw [List.take_add_one, h, List.flatMap_append]
  simp
section
variable {P : Program} {w : World} {K : PySem.W.Frag} {mg : Str → Option Value} {base : Heap}
def yig (C : Addr) : Sp := fun vs H Q E => ∃ v d, vs = [v] ∧ AtX H v d ∧ (qao d = none → ∀ H', Same H H' → Q .non H') ∧ (∀ b, qao d = some b → ∀ a H', Same H H' → XAt H' a C [("number", optN b)] → E (.ref a) none H')
theorem og_harms {C : Addr} (B : Bl mg) (xH : XInit P w K mg base "NoHarms" C ["self", "number"] (sp_x1 C "number")) (qc0 : mg "set" = none) (qc6 : ∃ t, mg "MOST_HARMS" = some (.int 3 t)) (qcs : ∃ t, mg "MOST_UNLIKE" = some (.int 3 t)) (qez : Has P w K mg base 5 "is_harm" ["thing"] yjz) (qa7 : Has P w K mg base 1 "cells_in" ["harm"] yby)
    (F : FnAt K mg "look_at_harms" qa0 ["thing"]) : HasX P w K mg base 6 "look_at_harms" ["thing"] (yig C) := by
  refine HasX.of F qbm (fun vs H Q E h => ?_) (fun f cdv A outer s H vs Q E hr h => ?_)
  · obtain ⟨v, d, rfl, _⟩ := h
    rfl
  · obtain ⟨v, d, rfl, hv, q1, q2⟩ := h
    have z1 : 1 ≤ sizeLine := by decide
    have sc := qbm
    refine ⟨_, (yan rfl (qad (ybc (QW.pt (yir (ydw (qcq (qbv qba rfl (B.of rfl) boot_isinstance (qak (qab (pv 0)) (qak (qab (ybm (v := .ty "list") rfl (B.of rfl) boot_list rfl)) yad))))) (qhx (qa6 ygi (qbv qaj rfl (B.of rfl) boot_len (qak (qab (pv 0)) yad)) (qab (qc4 qc6)) (yai _)))))
        (yaf (qd3 (ych (pe_xI xH hr (qaa qb3 yac)))))
        qa1)
      (qad (yar (i := 1) sc.nd rfl (Or.inl rfl) (qav yad))
      (yaf (qfq qh2 rfl (qi_of (yf6 rfl (B.of rfl) (qaa (pv 0) yac))) (qf4 rfl (qa2 (qan (i := 2) sc.nd rfl (Or.inl rfl)) (qa2 (qan (i := 3) sc.nd rfl (Or.inl rfl)) ycu)))
        (qad (ybc (ydw (qcq (qap qez hr (qak (qab (pv 3)) yad))))
          (yaf (qd3 (ych (pe_xI xH hr (qaa (pv 2) yac)))))
          qa1)
        (qad (ybi (qab (yg6 PySem.F.plainAttrs_list PySem.F.slot_list_extend PySem.F.type_list_extend ydx (pv 1) (qaa (qah qa7 hr (qaa (pv 3) yac)) yac))))
        (yaf (ybc (qa6 ygi (qbv qcu rfl (B.of rfl) boot_len (yiy (qbk (ycn rfl) rfl qc0 ycm (qak (qab (pv 1)) yad)) yad)) (qab (qc4 qcs)) (yai _))
          (yaf (qd3 (ych (pe_xI xH hr (qaa (pv 2) yac)))))
          qa1))))))))), ?_⟩
    have hraise : ∀ {H1 : Hp} {a : Addr} (b : Option Nat), qao d = some b → Same H H1 → H1 a = none → ∀ dd H4, XD H4 a C (some dd) [("number", optN b)] → SetX a dd none (upd H1 a (.ext (yb5 a C none))) H4 → (∃ a' C' dx, V.ref a = V.ref a' ∧ XTy K C' ∧ H4 a' = some (.ext (yb5 a' C' dx)) ∧ E (.ref a') none (upd H4 a' (.ext (qce a' C' dx)))) := fun {H1 a} b hb s1 ha dd H4 x4 s4 => by
      obtain ⟨r1, r2, r3⟩ := raised_x ha x4 s4
      exact ⟨a, C, some dd, rfl, xH.2.2.1.toXTy, r1, q2 b hb a _ (s1.trans r2) r3⟩
    refine ⟨_, rfl, _, _, _, _, rfl, hv.ty, qjd d, _, rfl, ?_⟩
    cases hs : isLst d with
    | false =>
      have e : qao d = some none := by cases d <;> first | rfl | cases hs
      refine iteT (iteT ⟨z1, fun a ha => ⟨a, _, rfl, .inl ⟨rfl, rfl, yaa⟩, fun dd H1 x1 s1 => ⟨rfl, ?_⟩⟩⟩)
      exact hraise none e (Same.refl H) ha dd H1 x1 s1
    | true =>
      obtain ⟨ds, rfl⟩ : ∃ ds, d = .list ds := by cases d <;> first | exact ⟨_, rfl⟩ | cases hs
      have hv' : At H v (.list ds) := by
        rcases hv with h | ⟨e, _⟩
        · exact h
        · cases e
      obtain ⟨L, us, rfl, hL, hu⟩ := hv'.lstEq
      have hul := hu.length
      refine iteF ⟨_, rfl, L, us, rfl, .inl (SqL.of hL), _, _, rfl, rfl, _, rfl, ?_⟩
      by_cases h3 : 3 < ds.length
      · have e : qao (.list ds) = some none := by
          show (if 3 < ds.length then some none else _) = _
          rw [if_pos h3]
        refine iteD (by omega) ⟨z1, fun a ha => ⟨a, _, rfl, .inl ⟨rfl, rfl, yaa⟩, fun dd H1 x1 s1 => ⟨rfl, ?_⟩⟩⟩
        exact hraise none e (Same.refl H) ha dd H1 x1 s1
      refine qbu (by omega) ?_
      refine ⟨Nat.zero_le _, fun p hp => ?_⟩
      have npL : L ≠ p := yah hL hp
      refine ⟨_, rfl, L, us, rfl, SqL.of (by rw [qag npL]; exact hL), yew (xs := us) (fun i σ H2 => ∃ (o2 o3 : Option V), σ = [some (.ref L), some (.ref p), o2, o3] ∧ Same H H2 ∧ H2 p = some (.lst ((accH ds i).map V.int)) ∧ (accH ds i).length ≤ 2 * i ∧ ∀ j, j < i → yck ds j = false)
        ⟨none, none, rfl, (Same.refl H).upd hp, yaa, Nat.le_refl _, fun j hj => absurd hj (by omega)⟩ (fun i σ H2 _ ⟨_, _, _, h, _⟩ => SqL.of (h _ _ hL)) ?_ ?_⟩
      · rintro i x pp σ H2 hx ⟨o2, o3, rfl, s2, e2, l2, ho⟩ hpp
        obtain ⟨dx, hdx, hat⟩ := hu.get hx
        have hil : i < ds.length := (List.getElem?_eq_some_iff.mp hdx).1
        have hget : ds.getD i .none = dx := by rw [List.getD_eq_getElem?_getD, hdx]; rfl
        have sP : Same H2 (upd H2 pp (.tup [.int i, x])) := (Same.refl H2).upd hpp
        refine ⟨pp, _, rfl, SqT.of yaa, rfl, _, _, rfl, _, _, rfl, rfl, ?_⟩
        refine ⟨_, rfl, x, dx, rfl, .inl (hat.same (s2.trans sP)), fun H3 s3 => ⟨_, rfl, ?_⟩⟩
        have s23 : Same H2 H3 := sP.trans s3
        cases hb : qgi dx with
        | false =>
          have e : qao (.list ds) = some (some i) := qff h3 hil (by unfold yck; rw [hget, hb]; rfl) ho
          refine iteT ⟨_, rfl, z1, fun a ha => ⟨a, _, rfl, .inl ⟨rfl, rfl, yaa⟩, fun dd H1 x1 s1 => ⟨rfl, ?_⟩⟩⟩
          exact hraise (some i) e (s2.trans s23) ha dd H1 x1 s1
        | true =>
          refine iteF ?_
          obtain ⟨g, ns, hg, ok, hc⟩ := qka (hat.same (s2.trans s23)) hb
          refine ⟨_, rfl, .inl ⟨rfl, _, SqL.of (s23 _ _ e2)⟩, ?_⟩
          refine ⟨_, rfl, x, g, ns, rfl, hg, ok, fun D H4 s4 hD eD => ?_⟩
          have s24 := s23.trans s4
          have hcl := ok.cl.2
          have ea : accH ds (i + 1) = accH ds i ++ g.c := by rw [yjv hdx, hc]
          have hlt : (accH ds (i + 1)).length ≤ 2 * (i + 1) := by rw [ea, List.length_append]; omega
          refine ⟨p, D, _, _, rfl, rfl, s24 _ _ e2, eD, ?_, ?_⟩
          · rw [List.length_map, List.length_map]
            exact Nat.le_of_lt (qc2 (by omega))
          rw [← List.map_append, ← ea]
          have s5 : Same H (upd H4 p (.lst ((accH ds (i + 1)).map V.int))) := (s2.trans s24).at hp
          have e5 : upd H4 p (.lst ((accH ds (i + 1)).map V.int)) p = some (.lst ((accH ds (i + 1)).map V.int)) := yaa
          revert s5 e5
          generalize upd H4 p (.lst ((accH ds (i + 1)).map V.int)) = H5
          intro s5 e5
          refine ⟨_, rfl, p, _, rfl, e5, by omega, fun q hq => ?_⟩
          have s6 : Same H5 (upd H5 q (SetO P w q (uniq (accH ds (i + 1))))) := (Same.refl H5).upd hq
          refine ⟨q, _, rfl, yaa, _, _, rfl, rfl, _, rfl, ?_⟩
          by_cases hu3 : 3 < (uniq (accH ds (i + 1))).length
          · have e : qao (.list ds) = some (some i) := qff h3 hil (by unfold yck; rw [hget, hb, decide_eq_true hu3]; rfl) ho
            refine iteD (by omega) ⟨_, rfl, z1, fun a ha => ⟨a, _, rfl, .inl ⟨rfl, rfl, yaa⟩, fun dd H1 x1 s1 => ⟨rfl, ?_⟩⟩⟩
            exact hraise (some i) e (s5.trans s6) ha dd H1 x1 s1
          · refine qbu (by omega) ⟨_, _, rfl, s5.trans s6, s6 _ _ e5, hlt, fun j hj => ?_⟩
            by_cases ej : j = i
            · subst ej
              unfold yck
              rw [hget, hb, decide_eq_false hu3]
              rfl
            · exact ho j (by omega)
      · rintro σ H2 ⟨o2, o3, rfl, s2, e2, l2, ho⟩
        exact q1 (qe9 h3 fun j hj => ho j (by omega)) _ s2
end
theorem hs_of {H : Hp} : ∀ {us : List V} {ds : List PyData}, AtAll H us ds → (∀ d ∈ ds, qgi d = true) → ∃ hs, HsV H us hs ∧ (∀ h ∈ hs, ∃ ns, okH h ns) ∧ allC hs = ds.flatMap yfq ∧ hs.length = ds.length
  | [], [], .nil, _ => ⟨[], ⟨rfl, fun i v h h1 => by simp at h1⟩, fun h hh => (by cases hh), rfl, rfl⟩
  | u :: us, d :: ds, .cons a r, hd => by
    obtain ⟨hs, h1, h2, h3, h4⟩ := hs_of r fun x hx => hd x (List.mem_cons_of_mem _ hx)
    obtain ⟨g, ns, hg, ok, hc⟩ := qka a (hd d (List.mem_cons_self ..))
    refine ⟨g :: hs, ⟨by simp [h1.len], fun i v h e1 e2 => ?_⟩, fun h hh => ?_, ?_, by simp [h4]⟩
    · cases i with
      | zero => cases e1; cases e2; exact hg
      | succ i => exact h1.at_ i v h e1 e2
    · rcases List.mem_cons.mp hh with rfl | hh
      · exact ⟨ns, ok⟩
      · exact h2 h hh
    · unfold allC at h3 ⊢
      rw [List.flatMap_cons, List.flatMap_cons, h3, hc]
def ya1 : PyData → List Int | .list ds => ds.flatMap yfq | _ => []
theorem yf4 {H : Hp} {v : V} {d : PyData} (hv : AtX H v d) (hb : qao d = none) : ∃ L us hs S, v = .ref L ∧ H L = some (.lst us) ∧ HsV H us hs ∧ okHs hs S ∧ allC hs = ya1 d := by
  obtain ⟨ds, rfl⟩ : ∃ ds, d = .list ds := by cases d <;> first | exact ⟨_, rfl⟩ | cases hb
  have hv' : At H v (.list ds) := by
    rcases hv with h | ⟨e, _⟩
    · exact h
    · cases e
  obtain ⟨L, us, rfl, hL, hu⟩ := hv'.lstEq
  have hb' : (if 3 < ds.length then some none else ((List.range ds.length).find? (yck ds)).map some) = none := hb
  by_cases h3 : 3 < ds.length
  · rw [if_pos h3] at hb'; cases hb'
  rw [if_neg h3] at hb'
  have hn : (List.range ds.length).find? (yck ds) = none := by
    cases hz : (List.range ds.length).find? (yck ds) with
    | none => rfl
    | some i => rw [hz] at hb'; cases hb'
  have hall := List.find?_range_eq_none.mp hn
  have hbad : ∀ i, i < ds.length → yck ds i = false := fun i hi => by
    have := hall i hi
    cases hz : yck ds i with
    | false => rfl
    | true => rw [hz] at this; cases this
  obtain ⟨hs, h1, h2, h4, h5⟩ := hs_of hu fun x hx => by
    obtain ⟨i, hi⟩ := List.getElem?_of_mem hx
    have hil := (List.getElem?_eq_some_iff.mp hi).1
    have := hbad i hil
    unfold yck at this
    rw [List.getD_eq_getElem?_getD, hi] at this
    rw [Bool.or_eq_false_iff] at this
    simpa using this.1
  refine ⟨L, us, hs, uniq (allC hs), rfl, hL, h1, ⟨by omega, h2, ?_, fun h hh c hc => ?_⟩, h4⟩
  · rw [h4]
    cases hz : ds.length with
    | zero =>
      have : ds = [] := List.length_eq_zero_iff.mp hz
      rw [this]
      decide
    | succ n =>
      have := hbad n (by omega)
      unfold yck at this
      rw [Bool.or_eq_false_iff] at this
      have h6 := of_decide_eq_false this.2
      unfold accH at h6
      rw [List.take_of_length_le (by omega)] at h6
      omega
  · exact (qes _ c).mpr (List.mem_flatMap.mpr ⟨h, hh, hc⟩)
section
variable {P : Program} {w : World} {K : PySem.W.Frag} {mg : Str → Option Value} {base : Heap}
def qe1 (C : Addr) : Sp := fun vs H Q E => ∃ v d, vs = [v] ∧ AtX H v d ∧ (qao d = none → ∀ (D : Addr) (ns : List Int) (H' : Hp), Same H H' → H D = none → H' D = some (.lst (ns.map V.int)) → ns.Perm (uniq (ya1 d)) → ns.Pairwise (· ≤ ·) → Q (.ref D) H') ∧ (∀ b, qao d = some b → ∀ a H', Same H H' → XAt H' a C [("number", optN b)] → E (.ref a) none H')
theorem yhv {C : Addr} (B : Bl mg) (qc0 : mg "set" = none) (yca : HasX P w K mg base 6 "look_at_harms" ["thing"] (yig C)) (qa7 : Has P w K mg base 1 "cells_in" ["harm"] yby) (F : FnAt K mg "cells_of" ybz ["harms"]) : HasX P w K mg base 7 "cells_of" ["harms"] (qe1 C) := by
  refine HasX.of F ycv (fun vs H Q E h => ?_) (fun f cdv A outer s H vs Q E hr h => ?_)
  · obtain ⟨v, d, rfl, _⟩ := h
    rfl
  · obtain ⟨v, d, rfl, hv0, k, kx⟩ := h
    have sc := ycv
    refine ⟨_, (yan rfl (qad (ybi (qab (qeu yca yhe hr (qaa (pv 0) yac))))
      (qad (yar (i := 1) sc.nd rfl (Or.inl rfl) (qav yad))
      (qad (qfq qh2 rfl (yhi (qab (pv 0))) (qan (i := 2) sc.nd rfl (Or.inl rfl))
        (yaf (ybi (qab (yg6 PySem.F.plainAttrs_list PySem.F.slot_list_extend PySem.F.type_list_extend ydx (pv 1) (qaa (qah qa7 hr (qaa (pv 2) yac)) yac))))))
      (yaf (qay (qbv (qeg rfl) rfl (B.of rfl) yel (yiy (qbk (ycn rfl) rfl qc0 ycm (qak (qab (pv 1)) yad)) yad)))))))), ?_⟩
    refine ⟨_, rfl, v, d, rfl, hv0, fun hb H1 s1 => ?_, kx⟩
    obtain ⟨L, us, hs, S, rfl, hL, hv, ok, hA⟩ := yf4 hv0 hb
    refine ⟨Nat.zero_le _, fun p hp => ?_⟩
    have hp0 : H p = none := s1.free hp
    have npL : L ≠ p := yah hL hp0
    refine ⟨_, rfl, L, rfl, ⟨us, SqL.of (by rw [qag npL]; exact s1 _ _ hL)⟩, yb1 (xs := us) (fun i σ H2 => ∃ (o2 : Option V), σ = [some (.ref L), some (.ref p), o2] ∧ Same H H2 ∧ H2 p = some (.lst ((allC (hs.take i)).map V.int)))
      ⟨none, rfl, s1.upd hp, yaa⟩ (fun i σ H2 _ ⟨_, _, h, _⟩ => SqL.of (h _ _ hL)) ?_ ?_⟩
    · rintro i x σ H2 hx ⟨o2, rfl, s2, e2⟩
      obtain ⟨g, hg, hat⟩ := hv.get hx
      obtain ⟨ns, og⟩ := ok.ok g (List.mem_of_getElem? hg)
      refine ⟨_, rfl, .inl ⟨rfl, _, SqL.of e2⟩, ?_⟩
      refine ⟨_, rfl, x, g, ns, rfl, HAt.same s2 hat, og, fun D H4 s4 hD eD => ?_⟩
      have hsub : ∀ h ∈ hs.take (i + 1), h ∈ hs := fun h hh => List.mem_of_mem_take hh
      have hlt : (allC (hs.take (i + 1))).length ≤ 6 := by
        have h1 := ok.clen hsub
        have h2 := ok.len
        rw [List.length_take] at h1
        omega
      refine ⟨p, D, _, _, rfl, rfl, s4 _ _ e2, eD, ?_, ?_⟩
      · rw [← List.length_append, ← List.map_append, ← ycl hg, List.length_map]
        exact Nat.le_of_lt (qc2 (by omega))
      rw [← List.map_append, ← ycl hg]
      exact ⟨_, rfl, (s2.trans s4).at hp0, yaa⟩
    · rintro σ H2 ⟨o2, rfl, s2, e2⟩
      rw [hv.len, List.take_length] at e2
      have hc := ok.clen (l := hs) (fun h hh => hh)
      have h3 := ok.len
      refine ⟨_, rfl, p, _, rfl, e2, by omega, fun q hq => ?_⟩
      have s6 : Same H2 (upd H2 q (SetO P w q (uniq (allC hs)))) := (Same.refl H2).upd hq
      refine ⟨q, _, rfl, yaa, by have := ok.few (l := hs) (fun h hh => hh); omega, fun l ns hl hpm hso => ?_⟩
      exact k hb l ns _ ((s2.trans s6).upd hl) ((s2.trans s6).free hl) yaa (by rw [← hA]; exact hpm) hso
end
def yfu : PyData → Bool | .int i => decide (1 ≤ i ∧ i ≤ 64) | _ => false
def qdp (n : Int) : PyData → Bool | .list ds => decide ((ds.length : Int) = n) && (ds.map bitD).all id | _ => false
def qcd (dz dh dc : PyData) : Bool := yfu dz && (decide (∀ c ∈ ya1 dh, c < intD dz) && qdp (intD dz) dc)
theorem last_max {ns : List Int} {x : Int} (h : (ns ++ [x]).Pairwise (· ≤ ·)) : ∀ y ∈ ns ++ [x], y ≤ x := by
  intro y hy
  rw [List.pairwise_append] at h
  rcases List.mem_append.mp hy with hy | hy
  · exact h.2.2 y hy x (List.mem_singleton.mpr rfl)
  · rw [List.mem_singleton.mp hy]; exact Int.le_refl _
section
variable {P : Program} {w : World} {K : PySem.W.Frag} {mg : Str → Option Value} {base : Heap}
def qjt : Sp := fun vs H Q _ => ∃ v d, vs = [v] ∧ AtX H v d ∧ Q (.bl (yfu d)) H
theorem og_size (qbf : ∃ t, mg "MOST_CELLS" = some (.int 64 t)) (yat : Has P w K mg base 1 "is_whole" ["thing"] qdz) (F : FnAt K mg "is_size" ycb ["thing"]) : Has P w K mg base 2 "is_size" ["thing"] qjt := by
  refine Has.ofQ F qdc (fun vs H Q E h => ?_) (fun f cdv A outer s H vs Q E hr h => ?_)
  · obtain ⟨v, d, rfl, _⟩ := h
    rfl
  · obtain ⟨v, d, rfl, hv, q⟩ := h
    have sc := qdc
    refine ⟨_, (yan rfl (yaf (qay (qab (ya6 (qah yat hr (qaa (pv 0) yac)) (ya6 (qat ygk (pv 0) qac (yai _)) (qbw (qat op_le (pv 0) (qc4 qbf) (yai _))))))))), ?_⟩
    refine ⟨_, rfl, v, d, rfl, hv, _, rfl, ?_⟩
    cases hw : ye6 d with
    | false =>
      have e : yfu d = false := by cases d <;> first | rfl | cases hw
      rw [e] at q
      exact iteF q
    | true =>
      obtain ⟨i, rfl⟩ : ∃ i, d = .int i := by cases d <;> first | exact ⟨_, rfl⟩ | cases hw
      have ev : v = .int i := by
        rcases hv with h | ⟨e, _⟩
        · exact h.intEq
        · cases e
      subst ev
      have e : yfu (.int i) = decide (1 ≤ i ∧ i ≤ 64) := rfl
      rw [e] at q
      refine iteT ⟨_, rfl, _, _, rfl, rfl, _, rfl, ?_⟩
      by_cases h0 : 1 ≤ i
      · refine iteD (by omega) ⟨_, rfl, _, _, rfl, rfl, ?_⟩
        rw [show decide (1 ≤ i ∧ i ≤ 64) = decide (i ≤ 64) by simp [h0]] at q
        exact q
      · refine qbu (by omega) ?_
        rw [decide_eq_false (fun z => h0 z.1)] at q
        exact q
def ykj : Sp := fun vs H Q _ => ∃ v d, ∃ n : Int, vs = [v, .int n] ∧ AtX H v d ∧ n ≤ 64 ∧ ∀ H', Same H H' → Q (.bl (qdp n d)) H'
theorem og_cont (B : Bl mg) (yem : mg "all" = none) (qbr : Has P w K mg base 2 "is_bit" ["thing"] yh6) (F : FnAt K mg "are_contents" qa5 ["thing", "size"]) : Has P w K mg base 3 "are_contents" ["thing", "size"] ykj := by
  refine Has.of F qbt (fun vs H Q E h => ?_) (fun f cdv A outer s H vs Q E hr h => ?_)
  · obtain ⟨v, d, n, rfl, _⟩ := h
    rfl
  · obtain ⟨v, d, n, rfl, hv, hn, k⟩ := h
    have sc := qbt
    refine ⟨_, (yae (qaw (ya6 (qae qba rfl (B.of rfl) boot_isinstance (qaa (pv 0) (qaa (ybm (v := .ty "list") rfl (B.of rfl) boot_list rfl) yac))) (ya6 (qat ybk (qae qaj rfl (B.of rfl) boot_len (qaa (pv 0) yac)) (pv 1) (yai _)) (qbw (qae (ydv rfl) rfl yem qdx (qaa (qc1 rfl (qbl rfl) (M := ["part"]) (ix := [none]) (qb5 (pv 0)) (fun _ _ _ _ => (qan (i := 0) (show List.Nodup (["part"] : List Str) by decide +kernel) rfl (Or.inl rfl))) (fun _ _ _ _ => qd8) (fun _ _ _ _ => (qah qbr hr (qaa (pv 0) yac)))) yac))))))), ?_⟩
    refine ⟨_, rfl, _, _, _, _, rfl, hv.ty, qjd d, _, rfl, ?_⟩
    cases hs : isLst d with
    | false =>
      have e : qdp n d = false := by cases d <;> first | rfl | cases hs
      rw [e] at k
      exact iteF (k H (Same.refl H))
    | true =>
      obtain ⟨ds, rfl⟩ : ∃ ds, d = .list ds := by cases d <;> first | exact ⟨_, rfl⟩ | cases hs
      have hv' : At H v (.list ds) := by
        rcases hv with h | ⟨e, _⟩
        · exact h
        · cases e
      obtain ⟨C, us, rfl, hC, hu⟩ := hv'.lstEq
      have hul := hu.length
      have ec : qdp n (.list ds) = (decide ((ds.length : Int) = n) && (ds.map bitD).all id) := rfl
      rw [ec] at k
      refine iteT ⟨_, rfl, C, _, rfl, .inl (SqL.of hC), _, rfl, rfl, _, rfl, ?_⟩
      by_cases hl : (ds.length : Int) = n
      rotate_left
      · rw [decide_eq_false hl] at k
        exact iteN (decide_eq_false (fun z => hl (by have := V.int.inj z; omega))) (k H (Same.refl H))
      rw [decide_eq_true hl, Bool.true_and] at k
      refine iteB (decide_eq_true (by rw [hul, hl])) ?_
      refine ⟨_, rfl, C, rfl, ⟨_, SqL.of hC⟩, fun D hD => yds (n := us.length) (fun i H' => Same H H' ∧ H' D = some (.lst (((ds.take i).map bitD).map V.bl))) ⟨(Same.refl H).upd hD, yaa⟩ ?_ ?_⟩
      · rintro H3 ⟨s3, e3⟩
        rw [hul, List.take_length] at e3
        refine ⟨⟨_, SqL.of (s3 _ _ hC), Nat.le_refl _⟩, ?_⟩
        exact ⟨D, _, rfl, e3, k _ s3⟩
      · rintro i H3 hi ⟨s3, e3⟩
        refine ⟨⟨_, _, SqL.of (s3 _ _ hC), List.getElem?_eq_getElem hi⟩, ?_⟩
        rintro x H4 ⟨rfl, hx⟩
        obtain ⟨dx, hdx, hax⟩ := hu.get (hx _ (SqL.of (s3 _ _ hC)))
        refine ⟨qbc.set (qbc.refl _) rfl, yes ?_⟩
        refine ⟨_, rfl, x, dx, rfl, .inl (hax.same s3), fun H5 s5 => ?_⟩
        refine ⟨_, s5 _ _ e3, qc2 (by rw [List.length_map, List.length_map, List.length_take]; omega), (s3.trans s5).at hD, ?_⟩
        rw [yaa, List.take_add_one, hdx]
        simp
def ye3 (C2 CM : Addr) : Sp := fun vs H Q E => ∃ vz vh vc dz dh dc, vs = [vz, vh, vc] ∧ AtX H vz dz ∧ AtX H vh dh ∧ AtX H vc dc ∧ (qao dh = none → qcd dz dh dc = true → ∀ H', Same H H' → Q .non H') ∧
  (qao dh = none → qcd dz dh dc = false → ∀ a H', Same H H' → XAt H' a CM [] → E (.ref a) none H') ∧ (∀ b, qao dh = some b → ∀ a H', Same H H' → XAt H' a C2 [("number", optN b)] → E (.ref a) none H')
theorem yj5 {C2 CM : Addr} (B : Bl mg) (xM : yhk K mg "NoMemory" CM) (qd9 : HasX P w K mg base 7 "cells_of" ["harms"] (qe1 C2)) (qfa : Has P w K mg base 2 "is_size" ["thing"] qjt) (ycj : Has P w K mg base 3 "are_contents" ["thing", "size"] ykj) (F : FnAt K mg "look_at_memory" qax ["size", "harms", "contents"]) :
    HasX P w K mg base 8 "look_at_memory" ["size", "harms", "contents"] (ye3 C2 CM) := by
  refine HasX.of F ybf (fun vs H Q E h => ?_) (fun f cdv A outer s H vs Q E hr h => ?_)
  · obtain ⟨vz, vh, vc, dz, dh, dc, rfl, _⟩ := h
    rfl
  · obtain ⟨vz, vh, vc, dz, dh, dc, rfl, hz, hh, hc, q1, q2, q3⟩ := h
    have z1 : 1 ≤ sizeLine := by decide
    have sc := ybf
    refine ⟨_, (yan rfl (qad (yar (i := 3) sc.nd rfl (Or.inl rfl) (qab (qeu qd9 yhe hr (qaa (pv 1) yac))))
      (qad (ybc (ydw (qcq (qap qfa hr (qak (qab (pv 0)) yad))))
        (yaf (qd3 (ych (yj9 xM (qaa yal yac)))))
        qa1)
      (qad (ybc (QW.pt (qw_and (qa6 ygi (qbv qaj rfl (B.of rfl) boot_len (qak (qab (pv 3)) yad)) (qab qac) (yai _)) (qw_and1 (qa6 ygk (qbe qal (qab (pv 3)) (qab (qhu qe5 qac)) (fun _ _ => rfl)) (qab (pv 0)) (yai _)))))
        (yaf (qd3 (ych (yj9 xM (qaa yal yac)))))
        qa1)
      (yaf (ybc (ydw (qcq (qap ycj hr (qak (qab (pv 2)) (qak (qab (pv 0)) yad)))))
        (yaf (qd3 (ych (yj9 xM (qaa yal yac)))))
        qa1)))))), ?_⟩
    refine ⟨_, rfl, vh, dh, rfl, hh, fun hb D ns H1 s1 hD eD hpm hso => ?_, q3⟩
    have ref : qcd dz dh dc = false → ∀ {H2 : Hp} {a : Addr}, Same H1 H2 → H2 a = none → E (.ref a) none (upd (upd H2 a (.ext (yb5 a CM none))) a (.ext (qce a CM none))) := fun hm H2 a s2 ha => by
      rw [qe3]
      exact q2 hb hm a _ ((s1.trans s2).upd ha) (.inr (.inr (.inl ⟨rfl, yaa⟩)))
    refine ⟨_, rfl, vz, dz, rfl, hz.same s1, _, rfl, ?_⟩
    cases hsz : yfu dz with
    | false =>
      have hm : qcd dz dh dc = false := by unfold qcd; rw [hsz]; rfl
      exact iteT ⟨z1, fun a ha => ⟨a, CM, none, rfl, xM.2.2.1, yaa, ref hm (Same.refl H1) ha⟩⟩
    | true =>
      refine iteF ?_
      obtain ⟨n, rfl⟩ : ∃ n, dz = .int n := by cases dz <;> first | exact ⟨_, rfl⟩ | cases hsz
      have ev : vz = .int n := by
        rcases hz with h | ⟨e, _⟩
        · exact h.intEq
        · cases e
      subst ev
      have hn : 1 ≤ n ∧ n ≤ 64 := of_decide_eq_true hsz
      have hmem : ∀ c, c ∈ ns ↔ c ∈ ya1 dh := fun c => by rw [hpm.mem_iff, qes]
      have em : qcd (.int n) dh dc = (decide (∀ c ∈ ya1 dh, c < n) && qdp n dc) := by unfold qcd; rw [hsz]; rfl
      have cont : (∀ c ∈ ya1 dh, c < n) → qcd (.int n) dh dc = qdp n dc := fun h => by rw [em, decide_eq_true h, Bool.true_and]
      refine ⟨_, rfl, D, _, rfl, .inl (SqL.of eD), _, _, rfl, rfl, _, rfl, ?_⟩
      by_cases hl : 0 < ns.length
      · refine iteD (by rw [List.length_map]; omega) ?_
        obtain ⟨x, hx⟩ : ∃ x, ns = ns.dropLast ++ [x] := ⟨ns.getLast (by intro z; rw [z] at hl; simp at hl), (List.dropLast_concat_getLast _).symm⟩
        have hmax : ∀ y ∈ ns, y ≤ x := by rw [hx] at hso ⊢; exact last_max hso
        have hxm : x ∈ ns := by rw [hx]; simp
        refine ⟨_, rfl, _, rfl, D, _, _, _, rfl, rfl, SqL.of eD, (show atI (ns.map V.int) (-1) = some (.int x) by rw [hx, List.map_append]; exact yib _ _), _, rfl, _, _, rfl, rfl, _, rfl, ?_⟩
        by_cases hge : n ≤ x
        · have hm : qcd (.int n) dh dc = false := by
            rw [em, decide_eq_false (fun z => by have := z x ((hmem x).mp hxm); omega)]
            rfl
          exact iteD (by omega) ⟨z1, fun a ha => ⟨a, CM, none, rfl, xM.2.2.1, yaa, ref hm (Same.refl H1) ha⟩⟩
        · have hlt : ∀ c ∈ ya1 dh, c < n := fun c hc' => by have := hmax c ((hmem c).mpr hc'); omega
          refine qbu (by omega) ?_
          refine ⟨_, rfl, _, rfl, vc, dc, n, rfl, hc.same s1, hn.2, fun H2 s2 => ⟨_, rfl, ?_⟩⟩
          cases hcd : qdp n dc with
          | false => exact iteT ⟨z1, fun a ha => ⟨a, CM, none, rfl, xM.2.2.1, yaa, ref (by rw [cont hlt, hcd]) s2 ha⟩⟩
          | true => exact iteF (q1 hb (by rw [cont hlt, hcd]) H2 (s1.trans s2))
      · refine qbu (by rw [List.length_map]; omega) ?_
        have hlt : ∀ c ∈ ya1 dh, c < n := fun c hc' => by
          have h1 := (hmem c).mpr hc'
          have h2 : ns = [] := List.length_eq_zero_iff.mp (by omega)
          rw [h2] at h1
          cases h1
        refine ⟨_, rfl, _, rfl, vc, dc, n, rfl, hc.same s1, hn.2, fun H2 s2 => ⟨_, rfl, ?_⟩⟩
        cases hcd : qdp n dc with
        | false => exact iteT ⟨z1, fun a ha => ⟨a, CM, none, rfl, xM.2.2.1, yaa, ref (by rw [cont hlt, hcd]) s2 ha⟩⟩
        | true => exact iteF (q1 hb (by rw [cont hlt, hcd]) H2 (s1.trans s2))
end
end Mh
set_option maxHeartbeats 2000000
namespace L2
open PySem PySem.Spec PyProof.Rows PySem.W Mx
section
variable {P : Program} {w : World} {K : PySem.W.Frag} {mg : Str → Option Value} {base : Heap} {C : Addr}
end
section
variable {X : Cx} {o e : Expr} {es : List Expr} {ta : TE} {t : TA} {C : Addr} {m : Str} {pos apos : Pos} {E : XK}
theorem yf8 {k n : Nat} {ps : List Str} {sp : Sp} {pl : Sem Bool} (c : Cls X.K C) (h : yc8 X.prog X.w X.K X.mg X.base C k m ps sp) (hx : qdj (CX1 X.prog X.w) X E) (hr : Room n X.A) (he : QE X o ta) (ha : QA X (e :: es) t) (hk : k ≤ n := by decide)
    (hst : starEach (e :: es) X.env = (false, eval e X.env) :: starEach es X.env := by rfl) (hpl : (backTo pos (starEach es X.env)).any (·.1) = false := by rfl)
    (ht : eval (.Call (.Attribute o m apos) (e :: es) [] pos) X.env = (do
      let ov ← eval o X.env
      standAt apos.atName
      let (f, first) ← holding [ov] (getMethod ov m pl)
      callWith pos f first (backTo pos (starEach (e :: es) X.env)) (backToKw pos (keywordEach [] X.env))) := by rfl) :
    QE X (.Call (.Attribute o m apos) (e :: es) [] pos) (qjf C m sp [] E ta t) := by
  obtain ⟨f, fd, h1, h2, h3⟩ := h
  exact ⟨ykm (pl := pl) he.of c h1 h3 (hr.mono hk) h2 .nil hx ha.of hst hpl ht⟩
end
end L2
set_option maxHeartbeats 4000000
namespace Mh
open PySem L2 PyProof.Rows Mx
theorem yfg {X : Cx} {sts : List Stmt} : QSs X sts yjn := ⟨yke⟩
def qeq (n : Nat) : PyData → Bool | .int i => decide (0 ≤ i ∧ i < n) | _ => false
section
variable {P : Program} {w : World} {K : PySem.W.Frag} {mg : Str → Option Value} {base : Heap} {C : Addr}
def qhp (CB : Addr) : Sp := fun vs H Q E => ∃ v d, vs = [v] ∧ AtX H v d ∧ (bitD d = true → ∀ H', Same H H' → Q .non H') ∧ (bitD d = false → ∀ a H', Same H H' → XAt H' a CB [] → E (.ref a) none H')
theorem og_lbit {CB : Addr} (xB : yhk K mg "NoBit" CB) (qbr : Has P w K mg base 2 "is_bit" ["thing"] yh6) (F : FnAt K mg "look_at_bit" ya9 ["thing"]) : HasX P w K mg base 3 "look_at_bit" ["thing"] (qhp CB) := by
  refine HasX.of F qb1 (fun vs H Q E h => ?_) (fun f cdv A outer s H vs Q E hr h => ?_)
  · obtain ⟨v, d, rfl, _⟩ := h
    rfl
  · obtain ⟨v, d, rfl, hv, q1, q2⟩ := h
    have sc := qb1
    refine ⟨_, (yan rfl (yaf (ybc (ydw (qcq (qap qbr hr (qak (qab (pv 0)) yad))))
        (yaf (qd3 (ych (yj9 xB (qaa yal yac)))))
        qa1))), ?_⟩
    refine ⟨_, rfl, v, d, rfl, hv, fun H1 s1 => ⟨_, rfl, ?_⟩⟩
    cases hb : bitD d with
    | true => exact iteF (q1 hb H1 s1)
    | false =>
      refine iteT ⟨(by show 1 ≤ sizeLine; decide), fun a ha => ⟨a, CB, none, rfl, xB.2.2.1, yaa, ?_⟩⟩
      rw [qe3]
      exact q2 hb a _ (s1.upd ha) (.inr (.inr (.inl ⟨rfl, yaa⟩)))
def yc0 (C CA : Addr) : Sp := fun vs H Q E => ∃ m L Cc us hs cs v d, vs = [.ref m, v] ∧ MemO H C m L Cc us hs cs ∧ AtX H v d ∧ (qeq cs.length d = true → Q .non H) ∧ (qeq cs.length d = false → ∀ a H', Same H H' → XAt H' a CA [] → E (.ref a) none H')
theorem yju {CA : Addr} (B : Bl mg) (xA : yhk K mg "NoAddress" CA) (cm : CM K C) (yat : Has P w K mg base 1 "is_whole" ["thing"] qdz) (F : ycf K C "look_at_address" "Memory.look_at_address" qai ["self", "address"]) : yc8 P w K mg base C 2 "look_at_address" ["self", "address"] (yc0 C CA) := by
  refine yc8.of F yau (fun vs H Q E h => ?_) (fun f cdv A outer s H vs Q E hr h => ?_)
  · obtain ⟨m, L, Cc, us, hs, cs, v, d, rfl, _⟩ := h
    rfl
  · obtain ⟨m, L, Cc, us, hs, cs, v, d, rfl, ⟨⟨dx, ho⟩, mm⟩, hv, q1, q2⟩ := h
    have ref : qeq cs.length d = false → ∀ {a : Addr}, H a = none → E (.ref a) none (upd (upd H a (.ext (yb5 a CA none))) a (.ext (qce a CA none))) := fun hm a ha => by
      rw [qe3]
      exact q2 hm a _ ((Same.refl H).upd ha) (.inr (.inr (.inl ⟨rfl, yaa⟩)))
    have z1 : 1 ≤ sizeLine := by decide
    have sc := yau
    refine ⟨_, (yan rfl (yaf (ybc (QW.pt (yir (ydw (qcq (qap yat hr (qak (qab (pv 1)) yad)))) (yir (qa6 op_lt (qab (pv 1)) (qab qac) (yai _)) (qhx (qa6 ygk (qab (pv 1)) (qbv qaj rfl (B.of rfl) boot_len (qfd (qc9 (qab (pv 0)) rfl) yad)) (yai _))))))
        (yaf (qd3 (ych (yj9 xA (qaa yal yac)))))
        qa1))), ?_⟩
    refine ⟨_, rfl, v, d, rfl, hv, _, rfl, ?_⟩
    cases hw : ye6 d with
    | false =>
      have e : qeq cs.length d = false := by cases d <;> first | rfl | cases hw
      exact iteT (iteT ⟨z1, fun a ha => ⟨a, CA, none, rfl, xA.2.2.1, yaa, ref e ha⟩⟩)
    | true =>
      refine iteF ?_
      obtain ⟨i, rfl⟩ : ∃ i, d = .int i := by cases d <;> first | exact ⟨_, rfl⟩ | cases hw
      have ev : v = .int i := by
        rcases hv with h | ⟨e, _⟩
        · exact h.intEq
        · cases e
      subst ev
      have e : qeq cs.length (.int i) = decide (0 ≤ i ∧ i < cs.length) := rfl
      refine ⟨_, rfl, _, _, rfl, rfl, _, rfl, ?_⟩
      by_cases h0 : i < 0
      · exact iteD h0 (iteT ⟨z1, fun a ha => ⟨a, CA, none, rfl, xA.2.2.1, yaa, ref (by rw [e, decide_eq_false (fun z => by omega)]) ha⟩⟩)
      refine qbu h0 ?_
      refine ⟨_, rfl, _, rfl, m, C, dx, _, _, rfl, ho, cm.c, cm.nc, lk_c, Cc, _, rfl, .inl (SqL.of mm.hc), _, _, rfl, rfl, _, rfl, ?_⟩
      by_cases h1 : i < cs.length
      · exact qbu (by rw [List.length_map]; omega) (q1 (by rw [e, decide_eq_true ⟨by omega, h1⟩]))
      · exact iteD (by rw [List.length_map]; omega) ⟨z1, fun a ha => ⟨a, CA, none, rfl, xA.2.2.1, yaa, ref (by rw [e, decide_eq_false (fun z => h1 z.2)]) ha⟩⟩
def ycq (C CA : Addr) (n : Nat) : Sp := fun vs H Q E => ∃ m L Cc us hs cs v d rest, vs = .ref m :: v :: rest ∧ rest.length = n ∧ MemO H C m L Cc us hs cs ∧ AtX H v d ∧ qeq cs.length d = false ∧ (∀ a H', Same H H' → XAt H' a CA [] → E (.ref a) none H')
theorem yjl {CA : Addr} (cm : CM K C) (yb4 : yc8 P w K mg base C 2 "look_at_address" ["self", "address"] (yc0 C CA)) (F : ycf K C "read" "Memory.read" ya4 ["self", "address"]) : yc8 P w K mg base C 5 "read" ["self", "address"] (ycq C CA 0) := by
  refine yc8.of F ydk (fun vs H Q E h => ?_) (fun f cdv A outer s H vs Q E hr h => ?_)
  · obtain ⟨m, L, Cc, us, hs, cs, v, d, rest, rfl, hl, _⟩ := h
    simp [hl]
  · obtain ⟨m, L, Cc, us, hs, cs, v, d, rest, rfl, hl, mo, hv, hb, q⟩ := h
    cases rest with
    | cons _ _ => simp at hl
    | nil =>
    obtain ⟨⟨dx, ho⟩, mm⟩ := id mo
    have sc := ydk
    refine ⟨_, (yan rfl (qad (ybi (yf8 cm.c yb4 yhe hr (qab (pv 0)) (qak (qab (pv 1)) yad))) yfg)), ?_⟩
    exact ⟨_, rfl, m, dx, _, rfl, ho, lk_n, _, rfl, m, L, Cc, us, hs, cs, v, d, rfl, mo, hv, fun z => (by rw [hb] at z; cases z), fun _ => q⟩
def qfx (C CB : Addr) : Sp := fun vs H Q E => ∃ m L Cc us hs cs v d u du, vs = [.ref m, v, u] ∧ MemO H C m L Cc us hs cs ∧ AtX H v d ∧ qeq cs.length d = true ∧ AtX H u du ∧ bitD du = false ∧ (∀ a H', Same H H' → XAt H' a CB [] → E (.ref a) none H')
def qg2 (C C2 CM : Addr) : Sp := fun vs H Q E => ∃ x vz vh vc dz dh dc, vs = [.ref x, vz, vh, vc] ∧ AtX H vz dz ∧ AtX H vh dh ∧ AtX H vc dc ∧ (qao dh = none → qcd dz dh dc = false) ∧
  (qao dh = none → ∀ a H', Same H H' → XAt H' a CM [] → E (.ref a) none H') ∧ (∀ b, qao dh = some b → ∀ a H', Same H H' → XAt H' a C2 [("number", optN b)] → E (.ref a) none H')
end
theorem boot_VE : bootBuiltins "ValueError" = some (.type "ValueError") := by decide +kernel
def nms : List Str := ["NoTest", "NoText", "NoHarms", "NoMemory", "NoAddress", "NoBit", "NoOrders", "NotSure", "NoKind", "NoSpares", "NoRow", "NoName", "TooMany"]
def kinds : List Str := ["test", "text", "harms", "memory", "address", "bit", "orders", "sure", "kind", "spares", "row", "name", "many"]
def ydh : List Str := ["test", "text", "harms", "memory", "address", "bit", "orders", "sure", "kind", "spares", "row", "name"]
def tru (j : Nat) : List Bool := [decide (0 = j), decide (1 = j), decide (2 = j), decide (3 = j), decide (4 = j), decide (5 = j), decide (6 = j), decide (7 = j), decide (8 = j), decide (9 = j), decide (10 = j), decide (11 = j), decide (12 = j)]
theorem qi6 : ∀ j, j < 13 → (tru j).count true = 1 ∧ (tru j)[j]? = some true ∧ ∀ m, m < j → (tru j)[m]? ≠ some true := by decide +kernel
theorem ite_f {c A B : Prop} [Decidable c] (h : ¬ c) (b : B) : if c then A else B := by rw [if_neg h]; exact b
theorem kinds_at : ∀ j, j < 13 → atI (ydh.map V.str ++ [V.str "many"]) (j : Nat) = some (V.str (kinds.getD j "")) := by decide +kernel
section
variable {P : Program} {w : World} {K : PySem.W.Frag} {mg : Str → Option Value} {base : Heap}
def yhu (K : PySem.W.Frag) (c : Nat → Addr) : Sp := fun vs H Q _ => ∃ a C fs j, vs = [.ref a] ∧ XAt H a C fs ∧ XTy K C ∧ j < 13 ∧ (∀ i, i < 13 → PySem.W.kitOne K (.ref C) (.ref (c i)) = some (decide (i = j))) ∧ PySem.W.kitOne K (.ref C) (.type "ValueError") = some true ∧
  ∀ H', Same H H' → Q (.str (kinds.getD j "")) H'
abbrev qby : Stmt := top 62
theorem qel : FnScope ["_law_e", "_law_some", "_law_names"] ["_law_e"] (yab qby) := ⟨rfl, rfl, rfl, by decide +kernel, rfl, by decide +kernel, by decide +kernel⟩
/- slots: 0 _law_e, 1 _law_some, 2 _law_names -/
theorem ok_kind {c : Nat → Addr} (B : Bl mg) (hVE : mg "ValueError" = none) (G : ∀ i x, nms[i]? = some x → mg x = some (.ref (c i))) (F : FnAt K mg "_law_kind" qby ["_law_e"]) : Has P w K mg base 1 "_law_kind" ["_law_e"] (yhu K c) := by
  refine Has.of F qel (fun vs H Q E h => ?_) (fun f cdv A outer s H vs Q E hr h => ?_)
  · obtain ⟨a, C, fs, j, rfl, _⟩ := h
    rfl
  · obtain ⟨a, C, fs, j, rfl, hx, T, hj, hk, hv, k⟩ := h
    have isi : ∀ {H' : Hp} {q : VK} (i : Nat), i < 13 → Same H H' → q (.bl (decide (i = j))) H' → rIsiX K [.ref a, .ref (c i)] H' q := fun i hi sm hq => ⟨a, C, fs, .ref (c i), _, rfl, .inl ⟨_, rfl⟩, XAt.same sm hx, T, hk i hi, hq⟩
    have sc := qel
    refine ⟨_, (qss_lit rfl (qad (qh7 (i := 1) sc.nd rfl (Or.inl rfl) (yb2 (qdw (qae qa4 rfl (B.of rfl) boot_isinstance (qaa (pv 0) (qaa (ya5 (v := .ref (c 0)) rfl (G 0 "NoTest" rfl) rfl) yac))) (qdw (qae qa4 rfl (B.of rfl) boot_isinstance (qaa (pv 0) (qaa (ya5 (v := .ref (c 1)) rfl (G 1 "NoText" rfl) rfl) yac))) (qdw (qae qa4 rfl (B.of rfl) boot_isinstance (qaa (pv 0) (qaa (ya5 (v := .ref (c 2)) rfl (G 2 "NoHarms" rfl) rfl) yac))) (qdw (qae qa4 rfl (B.of rfl) boot_isinstance (qaa (pv 0) (qaa (ya5 (v := .ref (c 3)) rfl (G 3 "NoMemory" rfl) rfl) yac))) yac))))))
      (qad (qh7 (i := 1) sc.nd rfl (Or.inl rfl) (qbi ycc (pv 1) (yb2 (qdw (qae qa4 rfl (B.of rfl) boot_isinstance (qaa (pv 0) (qaa (ya5 (v := .ref (c 4)) rfl (G 4 "NoAddress" rfl) rfl) yac))) (qdw (qae qa4 rfl (B.of rfl) boot_isinstance (qaa (pv 0) (qaa (ya5 (v := .ref (c 5)) rfl (G 5 "NoBit" rfl) rfl) yac))) (qdw (qae qa4 rfl (B.of rfl) boot_isinstance (qaa (pv 0) (qaa (ya5 (v := .ref (c 6)) rfl (G 6 "NoOrders" rfl) rfl) yac))) (qdw (qae qa4 rfl (B.of rfl) boot_isinstance (qaa (pv 0) (qaa (ya5 (v := .ref (c 7)) rfl (G 7 "NotSure" rfl) rfl) yac))) yac)))))))
      (qad (qh7 (i := 1) sc.nd rfl (Or.inl rfl) (qbi ycc (pv 1) (yb2 (qdw (qae qa4 rfl (B.of rfl) boot_isinstance (qaa (pv 0) (qaa (ya5 (v := .ref (c 8)) rfl (G 8 "NoKind" rfl) rfl) yac))) (qdw (qae qa4 rfl (B.of rfl) boot_isinstance (qaa (pv 0) (qaa (ya5 (v := .ref (c 9)) rfl (G 9 "NoSpares" rfl) rfl) yac))) (qdw (qae qa4 rfl (B.of rfl) boot_isinstance (qaa (pv 0) (qaa (ya5 (v := .ref (c 10)) rfl (G 10 "NoRow" rfl) rfl) yac))) (qdw (qae qa4 rfl (B.of rfl) boot_isinstance (qaa (pv 0) (qaa (ya5 (v := .ref (c 11)) rfl (G 11 "NoName" rfl) rfl) yac))) yac)))))))
      (qad (qh7 (i := 1) sc.nd rfl (Or.inl rfl) (qbi ycc (pv 1) (yb2 (qaa (qae qa4 rfl (B.of rfl) boot_isinstance (qaa (pv 0) (qaa (ya5 (v := .ref (c 12)) rfl (G 12 "TooMany" rfl) rfl) yac))) yac))))
      (qad (qs_if (PW.pt (qi7 (qar yix (yg6 PySem.F.plainAttrs_list PySem.F.slot_list_count PySem.F.type_list_count qkm (pv 1) (qaa yed yac)) qac (yai _)) (ygr (qdk (qcz (qae qa4 rfl (B.of rfl) boot_isinstance (qaa (pv 0) (qaa (ybm (v := .ty "ValueError") rfl hVE boot_VE rfl) yac))))))))
        (yaf (qs_ret yal))
        qa1)
      (qad (qs_strs (i := 2) (xs := ydh) sc.nd rfl (Or.inl rfl) (by decide +kernel))
      (yaf (qs_ret (yay qal (qbi ycc (pv 2) (yb2 (qaa yal yac))) (yg6 PySem.F.plainAttrs_list PySem.F.slot_list_index PySem.F.type_list_index yjh (pv 1) (qaa yed yac)) (fun _ _ => rfl))))))))))), ?_⟩
    have z4 : 4 ≤ sizeLine := by decide
    have u : ∀ {H' : Hp} {p q : Addr} {o o' : HO}, H' p = some o → H' q = none → upd H' q o' p = some o := fun h1 h2 => by rw [qag (yah h1 h2)]; exact h1
    refine ⟨_, rfl, ⟨a, C, fs, .ref (c 0), _, rfl, .inl ⟨_, rfl⟩, XAt.same ((Same.refl H)) hx, T, hk 0 (by decide), ⟨_, rfl, ⟨a, C, fs, .ref (c 1), _, rfl, .inl ⟨_, rfl⟩, XAt.same ((Same.refl H)) hx, T, hk 1 (by decide), ⟨_, rfl, ⟨a, C, fs, .ref (c 2), _, rfl, .inl ⟨_, rfl⟩, XAt.same ((Same.refl H)) hx, T, hk 2 (by decide), ⟨_, rfl, ⟨a, C, fs, .ref (c 3), _, rfl, .inl ⟨_, rfl⟩, XAt.same ((Same.refl H)) hx, T, hk 3 (by decide), ⟨z4, fun p1 f1 => ?_⟩⟩⟩⟩⟩⟩⟩⟩⟩
    have s1 : Same H _ := (Same.refl H).upd (o := .lst [.bl (decide (0 = j)), .bl (decide (1 = j)), .bl (decide (2 = j)), .bl (decide (3 = j))]) f1
    have a1 : upd H p1 (.lst [.bl (decide (0 = j)), .bl (decide (1 = j)), .bl (decide (2 = j)), .bl (decide (3 = j))]) p1 = some _ := yaa
    revert a1 s1
    generalize upd H p1 (.lst [.bl (decide (0 = j)), .bl (decide (1 = j)), .bl (decide (2 = j)), .bl (decide (3 = j))]) = H1
    intro s1 a1
    refine ⟨_, rfl, _, rfl, ⟨a, C, fs, .ref (c 4), _, rfl, .inl ⟨_, rfl⟩, XAt.same (s1) hx, T, hk 4 (by decide), ⟨_, rfl, ⟨a, C, fs, .ref (c 5), _, rfl, .inl ⟨_, rfl⟩, XAt.same (s1) hx, T, hk 5 (by decide), ⟨_, rfl, ⟨a, C, fs, .ref (c 6), _, rfl, .inl ⟨_, rfl⟩, XAt.same (s1) hx, T, hk 6 (by decide), ⟨_, rfl, ⟨a, C, fs, .ref (c 7), _, rfl, .inl ⟨_, rfl⟩, XAt.same (s1) hx, T, hk 7 (by decide), ⟨z4, fun p2 f2 => ⟨p1, p2, _, _, rfl, rfl, u a1 f2, yaa, (show 8 ≤ sizeLine by decide), fun p3 f3 => ?_⟩⟩⟩⟩⟩⟩⟩⟩⟩⟩
    refine ⟨_, rfl, _, rfl, ⟨a, C, fs, .ref (c 8), _, rfl, .inl ⟨_, rfl⟩, XAt.same (((s1.upd f2).upd f3)) hx, T, hk 8 (by decide), ⟨_, rfl, ⟨a, C, fs, .ref (c 9), _, rfl, .inl ⟨_, rfl⟩, XAt.same (((s1.upd f2).upd f3)) hx, T, hk 9 (by decide), ⟨_, rfl, ⟨a, C, fs, .ref (c 10), _, rfl, .inl ⟨_, rfl⟩, XAt.same (((s1.upd f2).upd f3)) hx, T, hk 10 (by decide), ⟨_, rfl, ⟨a, C, fs, .ref (c 11), _, rfl, .inl ⟨_, rfl⟩, XAt.same (((s1.upd f2).upd f3)) hx, T, hk 11 (by decide), ⟨z4, fun p4 f4 => ⟨p3, p4, _, _, rfl, rfl, u yaa f4, yaa, (show 12 ≤ sizeLine by decide), fun p5 f5 => ?_⟩⟩⟩⟩⟩⟩⟩⟩⟩⟩
    refine ⟨_, rfl, _, rfl, ⟨a, C, fs, .ref (c 12), _, rfl, .inl ⟨_, rfl⟩, XAt.same (((((s1.upd f2).upd f3).upd f4).upd f5)) hx, T, hk 12 (by decide), ⟨(show 1 ≤ sizeLine by decide), fun p6 f6 => ⟨p5, p6, _, _, rfl, rfl, u yaa f6, yaa, (show 13 ≤ sizeLine by decide), fun p7 f7 => ?_⟩⟩⟩⟩
    have hc : (tru j).count true = 1 := (qi6 j hj).1
    have hq : Same H _ := ((((((s1.upd f2).upd f3).upd f4).upd f5).upd f6).upd (o := .lst ((tru j).map V.bl)) f7)
    refine ⟨_, rfl, .inl ⟨rfl, _, SqL.of yaa⟩, p7, tru j, true, rfl, rfl, yaa, ?_⟩
    rw [hc]
    refine ⟨rfl, _, rfl, ?_⟩
    refine ite_f (by decide) ?_
    refine ⟨_, rfl, a, C, fs, .ty "ValueError", _, rfl, .inr ⟨_, rfl⟩, XAt.same hq hx, T, hv, _, rfl, ?_⟩
    refine ite_f (by decide) ?_
    refine ⟨(show 12 ≤ sizeLine by decide), fun p8 f8 => ?_⟩
    refine ⟨_, rfl, (show 1 ≤ sizeLine by decide), fun p9 f9 => ⟨p8, p9, _, _, rfl, rfl, u yaa f9, yaa, (show 13 ≤ sizeLine by decide), fun p10 f10 => ?_⟩⟩
    refine ⟨_, rfl, .inl ⟨rfl, _, SqL.of (u (u (u yaa f8) f9) f10)⟩, p7, tru j, true, j, rfl, rfl, u (u (u yaa f8) f9) f10, (qi6 j hj).2.1, (qi6 j hj).2.2, ?_⟩
    exact ⟨p10, _, _, _, rfl, rfl, SqL.of yaa, kinds_at j hj, k _ (((hq.upd f8).upd f9).upd f10)⟩
end
theorem yhl {P : Program} {w : World} {K : PySem.W.Frag} {mg : Str → Option Value} {base : Heap} {CX : CXT} {k : Nat} {f : Addr} {fd : FuncData} {ps : List Str} {sp1 sp2 : Sp} (h1 : FnOk P w K mg base CX k f fd ps sp1) (h2 : FnOk P w K mg base CX k f fd ps sp2) : FnOk P w K mg base CX k f fd ps (fun vs H Q E => sp1 vs H Q E ∨ sp2 vs H Q E) :=
  ⟨fun vs H Q E h => h.elim (h1.len vs H Q E) (h2.len vs H Q E), fun A outer s H args us vs Q E hr he hb hv hs => hs.elim (h1.run A outer s H args us vs Q E hr he hb hv) (h2.run A outer s H args us vs Q E hr he hb hv)⟩
section
variable {P : Program} {w : World} {K : PySem.W.Frag} {mg : Str → Option Value} {base : Heap} {C : Addr}
theorem qjv {f0 : Addr} {fd0 : FuncData} (B : Bl mg) (cm : CM K C) (yax : Has P w K mg base 8 "look_at_memory" ["size", "harms", "contents"] qbg) (ydy : Has P w K mg base 3 "settle" ["harms", "cells"] qd2) (F : Fun K "__init__" "Memory.__init__" qam f0 fd0) : FnOk P w K mg base CX0 9 f0 fd0 ["self", "size", "harms", "contents"] (yd1 C) := by
  refine Fun.okQ F yaw (fun vs H Q E h => ?_) (fun cdv A outer s H vs Q E hr h => ?_)
  · obtain ⟨x, dx, L0, C0, us, hs, S, cs, rfl, _⟩ := h
    rfl
  · obtain ⟨x, dx, L0, C0, us, hs, S, cs, rfl, hx, hL, hv, ok, hi, hC, hb, l1, l64, k⟩ := h
    have sc := yaw
    refine ⟨_, (yan rfl (qad (ybi (qap yax hr (qak (qab (pv 1)) (qak (qab (pv 2)) (qak (qab (pv 3)) yad)))))
      (qad (qif (qab (pv 0)) (qbk yb3 rfl (B.of rfl) boot_list (qak (qab (pv 2)) yad)) rfl)
      (qad (qif (qab (pv 0)) (qbk yb3 rfl (B.of rfl) boot_list (qak (qab (pv 3)) yad)) rfl)
      (yaf (ybi (qap ydy hr (qfd (qc9 (qab (pv 0)) rfl) (qfd (qc9 (qab (pv 0)) rfl) yad))))))))), ?_⟩
    refine ⟨_, rfl, _, rfl, _, rfl, L0, us, hs, S, C0, cs, rfl, hL, hv, ok, hi, hC, hb, l1, l64, fun H1 s1 => ?_⟩
    refine ⟨_, rfl, L0, _, rfl, .inl (SqL.of (s1 _ _ hL)), fun L n1 => ?_⟩
    have s2 : Same H1 (upd H1 L (.lst us)) := (Same.refl H1).upd n1
    have f2 : upd H1 L (.lst us) L = some (.lst us) := yaa
    revert s2 f2
    generalize upd H1 L (.lst us) = H2
    intro s2 f2
    have s12 := s1.trans s2
    refine ⟨_, rfl, x, C, dx, _, rfl, s12 _ _ hx, cm.c, cm.nh, by simp, ?_⟩
    have nLx : L ≠ x := fun z => by subst z; rw [s1 _ _ hx] at n1; cases n1
    have u3 : ∀ b u, b ≠ x → H2 b = some u → upd H2 x (.ins C dx (putF "harms" (.ref L) [])) b = some u := fun b u h e => by rw [qag h]; exact e
    have f3 : upd H2 x (.ins C dx (putF "harms" (.ref L) [])) x = some (.ins C dx [("harms", .ref L)]) := yaa
    revert u3 f3
    generalize upd H2 x (.ins C dx (putF "harms" (.ref L) [])) = H3
    intro u3 f3
    have nx : ∀ {b : Addr} {xs : List V}, H b = some (.lst xs) → b ≠ x := fun e z => by subst z; rw [hx] at e; cases e
    refine ⟨_, rfl, C0, _, rfl, .inl (SqL.of (u3 _ _ (nx hC) (s12 _ _ hC))), fun Cc n4 => ?_⟩
    have nCx : Cc ≠ x := fun z => by subst z; rw [f3] at n4; cases n4
    have nLC : L ≠ Cc := fun z => by subst z; rw [u3 _ _ nLx f2] at n4; cases n4
    have s4 : Same H3 (upd H3 Cc (.lst (cs.map V.int))) := (Same.refl H3).upd n4
    have f4 : upd H3 Cc (.lst (cs.map V.int)) Cc = some (.lst (cs.map V.int)) := yaa
    revert s4 f4
    generalize upd H3 Cc (.lst (cs.map V.int)) = H4
    intro s4 f4
    refine ⟨_, rfl, x, C, dx, _, rfl, s4 _ _ f3, cm.c, cm.nc, by simp, ?_⟩
    have u5 : ∀ b u, b ≠ x → H4 b = some u → upd H4 x (.ins C dx (putF "cells" (.ref Cc) [("harms", .ref L)])) b = some u := fun b u h e => by rw [qag h]; exact e
    have f5 : upd H4 x (.ins C dx (putF "cells" (.ref Cc) [("harms", .ref L)])) x = some (.ins C dx (fsM L Cc)) := by
      rw [yaa]
      have : putF "cells" (V.ref Cc) [("harms", .ref L)] = fsM L Cc := by
        unfold fsM putF
        rw [if_neg (by decide +kernel)]
        rfl
      rw [this]
    revert u5 f5
    generalize upd H4 x (.ins C dx (putF "cells" (.ref Cc) [("harms", .ref L)])) = H5
    intro u5 f5
    have hc0 : H Cc = none := by
      cases e : H Cc with
      | none => rfl
      | some u => have := u3 _ _ nCx (s12 _ _ e); rw [n4] at this; cases this
    have hl0 : H L = none := s1.free n1
    have up : ∀ b u, b ≠ x → H b = some u → H5 b = some u := fun b u h e => u5 _ _ h (s4 _ _ (u3 _ _ h (s12 _ _ e)))
    have m5 : Mem H5 L Cc us hs cs := ⟨nLC, u5 _ _ nLx (s4 _ _ (u3 _ _ nLx f2)), ⟨hv.len, fun i v h a b => by
      obtain ⟨z, e, hz⟩ := hv.at_ i v h a b
      exact ⟨z, e, up _ _ (fun q => by subst q; rw [hx] at hz; cases hz) hz⟩⟩, ok.ok, u5 _ _ nCx f4⟩
    refine ⟨_, rfl, x, C, dx, _, _, rfl, f5, cm.c, cm.nh, lk_h, _, rfl, x, C, dx, _, _, rfl, f5, cm.c, cm.nc, lk_c, L, Cc, us, hs, cs, rfl, m5, hi, l64, ?_⟩
    refine k L Cc _ (fun b u h e => ?_) hl0 hc0 ⟨⟨dx, ?_⟩, m5.upd _⟩
    · rw [qag (fun z => by subst z; rw [hc0] at e; cases e)]
      exact up b u h e
    · rw [qag (fun z => nCx z.symm)]
      exact f5
theorem yiv {f0 : Addr} {fd0 : FuncData} (cm : CM K C) (yb4 : HasM P w K mg base C 2 "look_at_address" ["self", "address"] (yfi C)) (ybs : Has P w K mg base 3 "look_at_bit" ["thing"] qcl) (yb7 : Has P w K mg base 5 "write_at" ["harms", "cells", "address", "bit"] qcw) (F : Fun K "write" "Memory.write" qaq f0 fd0) : FnOk P w K mg base CX0 6 f0 fd0 ["self", "address", "bit"] (qf1 C) := by
  refine Fun.okQ F ya8 (fun vs H Q E h => ?_) (fun cdv A outer s H vs Q E hr h => ?_)
  · obtain ⟨m, L, Cc, us, hs, cs, a, b, rfl, _⟩ := h
    rfl
  · obtain ⟨m, L, Cc, us, hs, cs, a, b, rfl, mo, hi, h0, h1, k⟩ := h
    obtain ⟨⟨dx, ho⟩, mm⟩ := id mo
    have sc := ya8
    refine ⟨_, (yan rfl (qad (ybi (qe_methH cm.c yb4 hr (qab (pv 0)) (qak (qab (pv 1)) yad)))
      (qad (ybi (qap ybs hr (qak (qab (pv 2)) yad)))
      (yaf (ybi (qap yb7 hr (qfd (qc9 (qab (pv 0)) rfl) (qfd (qc9 (qab (pv 0)) rfl) (qak (qab (pv 1)) (qak (qab (pv 2)) yad)))))))))), ?_⟩
    refine ⟨_, rfl, m, dx, _, rfl, ho, lk_n, _, rfl, m, L, Cc, us, hs, cs, a, rfl, mo, h0, h1, ?_⟩
    refine ⟨_, rfl, b, rfl, fun H1 s1 => ?_⟩
    have ho1 := s1 _ _ ho
    refine ⟨_, rfl, m, C, dx, _, _, rfl, ho1, cm.c, cm.nh, lk_h, _, rfl, m, C, dx, _, _, rfl, ho1, cm.c, cm.nc, lk_c, _, rfl, _, rfl, L, Cc, us, hs, cs, a, _, rfl, mm.same s1, hi, h0, h1, fun H2 u2 => ?_⟩
    exact k H2 ((UpC.of s1 mm.hc).trans u2)
theorem yjg {f0 : Addr} {fd0 : FuncData} {C2 CM' : Addr} (yax : HasX P w K mg base 8 "look_at_memory" ["size", "harms", "contents"] (ye3 C2 CM')) (F : Fun K "__init__" "Memory.__init__" qam f0 fd0) : FnOk P w K mg base (CX1 P w) 9 f0 fd0 ["self", "size", "harms", "contents"] (qg2 C C2 CM') := by
  refine FnOk.ofX F yaw (fun vs H Q E h => ?_) (fun cdv A outer s H vs Q E hr h => ?_)
  · obtain ⟨x, vz, vh, vc, dz, dh, dc, rfl, _⟩ := h
    rfl
  · obtain ⟨x, vz, vh, vc, dz, dh, dc, rfl, hz, hh, hc, h0, q1, q2⟩ := h
    have sc := yaw
    refine ⟨_, (yan rfl (qad (ybi (qab (qeu yax yhe hr (qaa (pv 1) (qaa (pv 2) (qaa (pv 3) yac)))))) yfg)), ?_⟩
    exact ⟨_, rfl, _, rfl, _, rfl, vz, vh, vc, dz, dh, dc, rfl, hz, hh, hc, fun hb z => (by rw [h0 hb] at z; cases z), fun hb _ => q1 hb, q2⟩
theorem yiu {f0 : Addr} {fd0 : FuncData} {CA : Addr} (cm : CM K C) (yb4 : yc8 P w K mg base C 2 "look_at_address" ["self", "address"] (yc0 C CA)) (F : Fun K "write" "Memory.write" qaq f0 fd0) : FnOk P w K mg base (CX1 P w) 6 f0 fd0 ["self", "address", "bit"] (ycq C CA 1) := by
  refine FnOk.ofX F ya8 (fun vs H Q E h => ?_) (fun cdv A outer s H vs Q E hr h => ?_)
  · obtain ⟨m, L, Cc, us, hs, cs, v, d, rest, rfl, hl, _⟩ := h
    simp [hl]
  · obtain ⟨m, L, Cc, us, hs, cs, v, d, rest, rfl, hl, mo, hv, hb, q⟩ := h
    obtain ⟨u, rfl⟩ := List.length_eq_one_iff.mp hl
    obtain ⟨⟨dx, ho⟩, mm⟩ := id mo
    have sc := ya8
    refine ⟨_, (yan rfl (qad (ybi (yf8 cm.c yb4 yhe hr (qab (pv 0)) (qak (qab (pv 1)) yad))) yfg)), ?_⟩
    exact ⟨_, rfl, m, dx, _, rfl, ho, lk_n, _, rfl, m, L, Cc, us, hs, cs, v, d, rfl, mo, hv, fun z => (by rw [hb] at z; cases z), fun _ => q⟩
theorem qhq {f0 : Addr} {fd0 : FuncData} {CA CB : Addr} (cm : CM K C) (yb4 : yc8 P w K mg base C 2 "look_at_address" ["self", "address"] (yc0 C CA)) (ybs : HasX P w K mg base 3 "look_at_bit" ["thing"] (qhp CB)) (yb7 : Has P w K mg base 5 "write_at" ["harms", "cells", "address", "bit"] qcw) (F : Fun K "write" "Memory.write" qaq f0 fd0) : FnOk P w K mg base (CX1 P w) 6 f0 fd0 ["self", "address", "bit"] (qfx C CB) := by
  refine FnOk.ofX F ya8 (fun vs H Q E h => ?_) (fun cdv A outer s H vs Q E hr h => ?_)
  · obtain ⟨m, L, Cc, us, hs, cs, v, d, u, du, rfl, _⟩ := h
    rfl
  · obtain ⟨m, L, Cc, us, hs, cs, v, d, u, du, rfl, mo, hv, hb, hu, hub, q⟩ := h
    obtain ⟨⟨dx, ho⟩, mm⟩ := id mo
    have sc := ya8
    refine ⟨_, (yan rfl (qad (ybi (yf8 cm.c yb4 yhe hr (qab (pv 0)) (qak (qab (pv 1)) yad)))
      (qad (ybi (qab (qeu ybs yhe hr (qaa (pv 2) yac))))
      (yaf (ybi (qap yb7 hr (qfd (qc9 (qab (pv 0)) rfl) (qfd (qc9 (qab (pv 0)) rfl) (qak (qab (pv 1)) (qak (qab (pv 2)) yad)))))))))), ?_⟩
    refine ⟨_, rfl, m, dx, _, rfl, ho, lk_n, _, rfl, m, L, Cc, us, hs, cs, v, d, rfl, mo, hv, fun _ => ?_, fun z => (by rw [hb] at z; cases z)⟩
    exact ⟨_, rfl, u, du, rfl, hu, fun z => (by rw [hub] at z; cases z), fun _ => q⟩
end
structure KX (K : PySem.W.Frag) (c : Nat → Addr) (cM : Addr) (j : Nat) : Prop where
  lt : j < 13
  ty : XTy K (c j)
  one : ∀ i, i < 13 → PySem.W.kitOne K (.ref (c j)) (.ref (c i)) = some (decide (i = j))
  ve : PySem.W.kitOne K (.ref (c j)) (.type "ValueError") = some true
  em : PySem.W.exmOne K (.ref (c j)) (.ref cM) = some true
def qfu (dz dh dc : PyData) : Str := match qao dh with | some _ => "harms" | none => if qcd dz dh dc = true then "made" else "memory"
theorem qjr {H : Hp} : ∀ {us : List V} {ds : List PyData}, AtAll H us ds → (ds.map bitD).all id = true → ∃ cs : List Int, us = cs.map V.int ∧ bits cs ∧ cs.length = ds.length
  | [], [], .nil, _ => ⟨[], rfl, fun c h => (by cases h), rfl⟩
  | u :: us, d :: ds, .cons a r, h => by
    have h' : (bitD d && (ds.map bitD).all id) = true := h
    rw [Bool.and_eq_true] at h'
    obtain ⟨cs, rfl, hb, hl⟩ := qjr r h'.2
    have hd := h'.1
    obtain ⟨i, rfl⟩ : ∃ i, d = .int i := by cases d <;> first | exact ⟨_, rfl⟩ | exact absurd hd (by simp [bitD])
    have := a.intEq
    subst this
    have hi : i = 0 ∨ i = 1 := of_decide_eq_true hd
    refine ⟨i :: cs, rfl, fun c hc => ?_, by simp [hl]⟩
    rcases List.mem_cons.mp hc with rfl | hc
    · rcases hi with rfl | rfl
      · exact ⟨false, rfl⟩
      · exact ⟨true, rfl⟩
    · exact hb c hc
theorem mem_good {H : Hp} {vz vh vc : V} {dz dh dc : PyData} (hz : AtX H vz dz) (hh : AtX H vh dh) (hc : AtX H vc dc) (hb : qao dh = none) (hm : qcd dz dh dc = true) :
    ∃ L us hs S C cs, vz = .int (cs.length : Nat) ∧ vh = .ref L ∧ vc = .ref C ∧ H L = some (.lst us) ∧ HsV H us hs ∧ okHs hs S ∧ InR hs cs.length ∧ H C = some (.lst (cs.map V.int)) ∧ bits cs ∧ 1 ≤ cs.length ∧ cs.length ≤ 64 := by
  obtain ⟨L, us, hs, S, rfl, hL, hv, ok, hA⟩ := yf4 hh hb
  have hm' : (yfu dz && (decide (∀ c ∈ ya1 dh, c < intD dz) && qdp (intD dz) dc)) = true := hm
  rw [Bool.and_eq_true, Bool.and_eq_true] at hm'
  obtain ⟨h1, h2, h3⟩ := hm'
  obtain ⟨n, rfl⟩ : ∃ n, dz = .int n := by cases dz <;> first | exact ⟨_, rfl⟩ | cases h1
  have ev : vz = .int n := by
    rcases hz with h | ⟨e, _⟩
    · exact h.intEq
    · cases e
  have hn : 1 ≤ n ∧ n ≤ 64 := of_decide_eq_true h1
  have h2' : ∀ c ∈ ya1 dh, c < n := of_decide_eq_true h2
  obtain ⟨ds, rfl⟩ : ∃ ds, dc = .list ds := by cases dc <;> first | exact ⟨_, rfl⟩ | cases h3
  have hc' : At H vc (.list ds) := by
    rcases hc with h | ⟨e, _⟩
    · exact h
    · cases e
  obtain ⟨C, ws, rfl, hC, hw⟩ := hc'.lstEq
  have h3' : (decide ((ds.length : Int) = n) && (ds.map bitD).all id) = true := h3
  rw [Bool.and_eq_true] at h3'
  have hl : (ds.length : Int) = n := of_decide_eq_true h3'.1
  obtain ⟨cs, rfl, hbt, hcl⟩ := qjr hw h3'.2
  refine ⟨L, us, hs, S, C, cs, ?_, rfl, rfl, hL, hv, ok, fun h hh' x hx => ?_, hC, hbt, by omega, by omega⟩
  · rw [ev, ← hl, hcl]
  · obtain ⟨ns, og⟩ := ok.ok h hh'
    have hx2 := h2' x (by rw [← hA]; exact List.mem_flatMap.mpr ⟨h, hh', hx⟩)
    exact ⟨(og.rg x hx).1, by omega⟩
section
variable {P : Program} {w : World} {K : PySem.W.Frag} {mg : Str → Option Value} {base : Heap} {C : Addr}
def qi5 (C C2 CM : Addr) : Sp := fun vs H Q E => yd1 C vs H Q E ∨ qg2 C C2 CM vs H Q E
def qki : Sp := fun vs H Q _ => ∃ vz vh vc dz dh dc, vs = [vz, vh, vc] ∧ AtX H vz dz ∧ AtX H vh dh ∧ AtX H vc dc ∧ ∀ H', Same H H' → Q (.str (qfu dz dh dc)) H'
abbrev qbx : Stmt := top 63
theorem qej : FnScope ["_law_size", "_law_harms_here", "_law_contents", "_law_caught", "_law_e"] ["_law_size", "_law_harms_here", "_law_contents"] (yab qbx) := ⟨rfl, rfl, rfl, by decide +kernel, rfl, by decide +kernel, by decide +kernel⟩
/- slots: 0 _law_size, 1 _law_harms_here, 2 _law_contents, 3 _law_caught, 4 _law_e -/
theorem og_made {c : Nat → Addr} {cM : Addr} (gm : mg "MarchError" = some (.ref cM)) (k2 : KX K c cM 2) (k3 : KX K c cM 3) (qds : Has P w K mg base 1 "_law_kind" ["_law_e"] (yhu K c)) (h_Memory : qj7 P w K mg base C 9 "Memory" ["self", "size", "harms", "contents"] (qi5 C (c 2) (c 3)))
    (F : FnAt K mg "_law_made" qbx ["_law_size", "_law_harms_here", "_law_contents"]) : Has P w K mg base 11 "_law_made" ["_law_size", "_law_harms_here", "_law_contents"] qki := by
  refine Has.ofQ F qej (fun vs H Q E h => ?_) (fun f cdv A outer s H vs Q E hr h => ?_)
  · obtain ⟨vz, vh, vc, dz, dh, dc, rfl, _⟩ := h
    rfl
  · obtain ⟨vz, vh, vc, dz, dh, dc, rfl, hz, hh, hc, q⟩ := h
    have sc := qej
    refine ⟨_, (yan rfl (qad (yar (i := 3) sc.nd rfl (Or.inl rfl) (qab qb3))
      (qad (qd3 (ps_try (iy := 3) (jn := 4) (fun _ _ z => z) rfl rfl (psx_expr (pex_make (fun _ _ z => z) h_Memory hr (qaa (pv 0) (qaa (pv 1) (qaa (pv 2) yac))))) sc.nd rfl rfl rfl (Or.inl rfl) (by decide) rfl gm))
      (yaf (qay (yhx (qt_of (qgo (yia (pv 3)))) (qab yal) (qap qds hr (qak (qab (pv 3)) yad)))))))), ?_⟩
    refine ⟨_, rfl, _, rfl, _, rfl, fun x dx hx hdx hne => ?_⟩
    have sx : Same H (upd (upd H dx (.own x)) x (.ins C dx [])) := ((Same.refl H).upd hdx).upd (by rw [qag hne.symm]; exact hx)
    have ex : upd (upd H dx (.own x)) x (.ins C dx []) x = some (.ins C dx []) := yaa
    revert sx ex
    generalize upd (upd H dx (.own x)) x (.ins C dx []) = H1
    intro sx ex
    cases hb : qao dh with
    | some b =>
      refine .inr ⟨x, vz, vh, vc, dz, dh, dc, rfl, hz.same sx, hh.same sx, hc.same sx, fun z => (by rw [hb] at z; cases z), fun z => (by rw [hb] at z; cases z), fun b' _ a H2 s2 xa => ⟨a, rfl, a, c 2, _, rfl, xa, k2.em, ?_⟩⟩
      refine ⟨_, rfl, _, rfl, iteN (decide_eq_false (fun z => by cases z)) ?_⟩
      refine ⟨_, rfl, a, c 2, _, 2, rfl, xa, k2.ty, k2.lt, k2.one, k2.ve, fun H3 s3 => ?_⟩
      have := q H3 ((sx.trans s2).trans s3)
      unfold qfu at this
      rw [hb] at this
      exact this
    | none =>
      cases hm : qcd dz dh dc with
      | false =>
        refine .inr ⟨x, vz, vh, vc, dz, dh, dc, rfl, hz.same sx, hh.same sx, hc.same sx, fun _ => hm, fun _ a H2 s2 xa => ⟨a, rfl, a, c 3, _, rfl, xa, k3.em, ?_⟩, fun b z => (by rw [hb] at z; cases z)⟩
        refine ⟨_, rfl, _, rfl, iteN (decide_eq_false (fun z => by cases z)) ?_⟩
        refine ⟨_, rfl, a, c 3, _, 3, rfl, xa, k3.ty, k3.lt, k3.one, k3.ve, fun H3 s3 => ?_⟩
        have := q H3 ((sx.trans s2).trans s3)
        unfold qfu at this
        rw [hb] at this
        simp only [hm] at this
        exact this
      | true =>
        obtain ⟨L, us, hs, S, Cc, cs, rfl, rfl, rfl, hL, hv, ok, hi, hC, hbt, l1, l2⟩ := mem_good (hz.same sx) (hh.same sx) (hc.same sx) hb hm
        refine .inl ⟨x, dx, L, Cc, us, hs, S, cs, rfl, ex, hL, hv, ok, hi, hC, hbt, l1, l2, fun L' C' H2 keep _ _ mo => ⟨rfl, ?_⟩⟩
        have s2 : Same H H2 := fun b u e => keep b u (fun z => by subst z; rw [hx] at e; cases e) (sx _ _ e)
        refine ⟨_, rfl, _, rfl, iteB (decide_eq_true rfl) ?_⟩
        have := q H2 s2
        unfold qfu at this
        rw [hb] at this
        simp only [hm] at this
        exact this
end
section
variable {P : Program} {w : World} {K : PySem.W.Frag} {mg : Str → Option Value} {base : Heap} {C : Addr}
def qie (C CA CB : Addr) : Sp := fun vs H Q E => qf1 C vs H Q E ∨ (ycq C CA 1 vs H Q E ∨ qfx C CB vs H Q E)
theorem mx_write {CA CB : Addr} (cm : CM K C) (hg : HasM P w K mg base C 2 "look_at_address" ["self", "address"] (yfi C)) (yb4 : yc8 P w K mg base C 2 "look_at_address" ["self", "address"] (yc0 C CA)) (hb : Has P w K mg base 3 "look_at_bit" ["thing"] qcl) (ybs : HasX P w K mg base 3 "look_at_bit" ["thing"] (qhp CB))
    (yb7 : Has P w K mg base 5 "write_at" ["harms", "cells", "address", "bit"] qcw) (F : ycf K C "write" "Memory.write" qaq ["self", "address", "bit"]) : yc8 P w K mg base C 6 "write" ["self", "address", "bit"] (qie C CA CB) := by
  obtain ⟨f, fd, h1, h2, h3⟩ := F
  exact ⟨f, fd, h1, h3, yhl (yiv cm hg hb yb7 h2).x (yhl (yiu cm yb4 h2) (qhq cm yb4 ybs yb7 h2))⟩
theorem mx_init {C2 CM' : Addr} (B : Bl mg) (cm : CM K C) (hg : Has P w K mg base 8 "look_at_memory" ["size", "harms", "contents"] qbg) (ydy : Has P w K mg base 3 "settle" ["harms", "cells"] qd2) (yax : HasX P w K mg base 8 "look_at_memory" ["size", "harms", "contents"] (ye3 C2 CM'))
    (F : ycf K C "__init__" "Memory.__init__" qam ["self", "size", "harms", "contents"]) : yc8 P w K mg base C 9 "__init__" ["self", "size", "harms", "contents"] (qi5 C C2 CM') := by
  obtain ⟨f, fd, h1, h2, h3⟩ := F
  exact ⟨f, fd, h1, h3, yhl (qjv B cm hg ydy h2).x (yjg yax h2)⟩
theorem MemO.same {H H' : Hp} {m L Cc : Addr} {us : List V} {hs : List Hm} {cs : List Int} (h : MemO H C m L Cc us hs cs) (s : Same H H') : MemO H' C m L Cc us hs cs := by
  obtain ⟨⟨dx, ho⟩, mm⟩ := h
  exact ⟨⟨dx, s _ _ ho⟩, mm.same s⟩
def TP (H : Hp) (r : V) (x : Str) : Prop := At H r (.tuple [.str x, .none])
def qh9 (C : Addr) : Sp := fun vs H Q _ => ∃ m L Cc us hs cs, ∃ way : Nat, ∃ va vb da db, vs = [.ref m, .int way, va, vb] ∧ MemO H C m L Cc us hs cs ∧ InR hs cs.length ∧ AtX H va da ∧ AtX H vb db ∧
  ((way < 2 ∧ qeq cs.length da = false ∧ ∀ r H', Same H H' → TP H' r "address" → Q r H') ∨ (way = 1 ∧ qeq cs.length da = true ∧ bitD db = false ∧ ∀ r H', Same H H' → TP H' r "bit" → Q r H') ∨ (way = 1 ∧ qeq cs.length da = true ∧ bitD db = true ∧ ∀ r H' ds, UpC H Cc ds H' → TP H' r "told" → Q r H'))
abbrev qbp : Stmt := top 64
theorem yd2 : FnScope ["_law_memory", "_law_way", "_law_address", "_law_bit", "_law_caught", "_law_found", "_law_e"] ["_law_memory", "_law_way", "_law_address", "_law_bit"] (yab qbp) := ⟨rfl, rfl, rfl, by decide +kernel, rfl, by decide +kernel, by decide +kernel⟩
/- slots: 0 _law_memory, 1 _law_way, 2 _law_address, 3 _law_bit, 4 _law_caught, 5 _law_found, 6 _law_e -/
theorem og_asked {c : Nat → Addr} {cM : Addr} (gm : mg "MarchError" = some (.ref cM)) (k4 : KX K c cM 4) (k5 : KX K c cM 5) (cm : CM K C) (qds : Has P w K mg base 1 "_law_kind" ["_law_e"] (yhu K c)) (hm_read : yc8 P w K mg base C 5 "read" ["self", "address"] (ycq C (c 4) 0)) (hm_write : yc8 P w K mg base C 6 "write" ["self", "address", "bit"] (qie C (c 4) (c 5)))
    (F : FnAt K mg "_law_asked" qbp ["_law_memory", "_law_way", "_law_address", "_law_bit"]) : Has P w K mg base 7 "_law_asked" ["_law_memory", "_law_way", "_law_address", "_law_bit"] (qh9 C) := by
  refine Has.ofQ F yd2 (fun vs H Q E h => ?_) (fun f cdv A outer s H vs Q E hr h => ?_)
  · obtain ⟨m, L, Cc, us, hs, cs, way, va, vb, da, db, rfl, _⟩ := h
    rfl
  · obtain ⟨m, L, Cc, us, hs, cs, way, va, vb, da, db, rfl, mo, hi, ha, hb, hq⟩ := h
    obtain ⟨⟨dx, ho⟩, mm⟩ := id mo
    have z2 : 2 ≤ sizeLine := by decide
    have sc := yd2
    refine ⟨_, (yan rfl (qad (yar (i := 4) sc.nd rfl (Or.inl rfl) (qab qb3))
      (qad (yar (i := 5) sc.nd rfl (Or.inl rfl) (qab qb3))
      (qad (qd3 (ps_try (iy := 4) (jn := 6) (fun _ _ z => z) rfl rfl (psx_set (i := 5) sc.nd rfl (Or.inl rfl) (pex_if (fun _ _ z => z) (qar ybk (pv 1) qac (yai _)) (yh5 (fun _ _ z => z) cm.c hm_read hr (pv 0) (qaa (pv 2) yac)) (yh5 (fun _ _ z => z) cm.c hm_write hr (pv 0) (qaa (pv 2) (qaa (pv 3) yac))))) sc.nd rfl rfl rfl (Or.inl rfl) (by decide) rfl gm))
      (yaf (qay (yhx (qt_of (qgo (yia (pv 4)))) (ybh (yam (qab yal) (qak (qab (pv 5)) yad))) (ybh (yiy (qap qds hr (qak (qab (pv 4)) yad)) (yam (qab qb3) yad)))))))))), ?_⟩
    refine ⟨_, rfl, rfl, _, rfl, ?_⟩
    rcases hq with ⟨hw, hbad, q⟩ | ⟨rfl, hok, hbad, q⟩ | ⟨rfl, hok, hbit, q⟩
    · by_cases h0 : way = 0
      · subst h0
        refine iteB (by decide) ⟨_, rfl, m, dx, _, rfl, ho, lk_n, _, rfl, m, L, Cc, us, hs, cs, va, da, [], rfl, rfl, mo, ha, hbad, fun a H2 s2 xa => ⟨a, rfl, a, c 4, _, rfl, xa, k4.em, ?_⟩⟩
        refine ⟨_, rfl, _, rfl, iteN (decide_eq_false (fun z => by cases z)) ?_⟩
        refine ⟨_, rfl, a, c 4, _, 4, rfl, xa, k4.ty, k4.lt, k4.one, k4.ve, fun H3 s3 => ⟨z2, fun p hp => ?_⟩⟩
        exact q _ _ ((s2.trans s3).upd hp) (.tup yaa (.cons (.str _) (.cons .non .nil)))
      · refine iteN (decide_eq_false (fun z => h0 (by have := V.int.inj z; omega))) ⟨_, rfl, m, dx, _, rfl, ho, lk_n, _, rfl, _, rfl, .inr (.inl ⟨m, L, Cc, us, hs, cs, va, da, [vb], rfl, rfl, mo, ha, hbad, fun a H2 s2 xa => ⟨a, rfl, a, c 4, _, rfl, xa, k4.em, ?_⟩⟩)⟩
        refine ⟨_, rfl, _, rfl, iteN (decide_eq_false (fun z => by cases z)) ?_⟩
        refine ⟨_, rfl, a, c 4, _, 4, rfl, xa, k4.ty, k4.lt, k4.one, k4.ve, fun H3 s3 => ⟨z2, fun p hp => ?_⟩⟩
        exact q _ _ ((s2.trans s3).upd hp) (.tup yaa (.cons (.str _) (.cons .non .nil)))
    · refine iteN (by decide) ⟨_, rfl, m, dx, _, rfl, ho, lk_n, _, rfl, _, rfl, .inr (.inr ⟨m, L, Cc, us, hs, cs, va, da, vb, db, rfl, mo, ha, hok, hb, hbad, fun a H2 s2 xa => ⟨a, rfl, a, c 5, _, rfl, xa, k5.em, ?_⟩⟩)⟩
      refine ⟨_, rfl, _, rfl, iteN (decide_eq_false (fun z => by cases z)) ?_⟩
      refine ⟨_, rfl, a, c 5, _, 5, rfl, xa, k5.ty, k5.lt, k5.one, k5.ve, fun H3 s3 => ⟨z2, fun p hp => ?_⟩⟩
      exact q _ _ ((s2.trans s3).upd hp) (.tup yaa (.cons (.str _) (.cons .non .nil)))
    · obtain ⟨i, rfl⟩ : ∃ i, da = .int i := by cases da <;> first | exact ⟨_, rfl⟩ | cases hok
      have ea : va = .int i := by
        rcases ha with h | ⟨e, _⟩
        · exact h.intEq
        · cases e
      subst ea
      have hi2 : 0 ≤ i ∧ i < cs.length := of_decide_eq_true hok
      obtain ⟨j, rfl⟩ : ∃ j, db = .int j := by cases db <;> first | exact ⟨_, rfl⟩ | cases hbit
      have eb : vb = .int j := by
        rcases hb with h | ⟨e, _⟩
        · exact h.intEq
        · cases e
      subst eb
      have hj : j = 0 ∨ j = 1 := of_decide_eq_true hbit
      obtain ⟨b, rfl⟩ : ∃ b, j = b2i b := by
        rcases hj with rfl | rfl
        · exact ⟨false, rfl⟩
        · exact ⟨true, rfl⟩
      refine iteN (by decide) ⟨_, rfl, m, dx, _, rfl, ho, lk_n, _, rfl, _, rfl, .inl ⟨m, L, Cc, us, hs, cs, i, b, rfl, mo, hi, hi2.1, hi2.2, fun H2 u2 => ?_⟩⟩
      refine ⟨_, rfl, _, rfl, iteB (decide_eq_true rfl) ⟨_, rfl, z2, fun p hp => ?_⟩⟩
      exact q _ _ _ (u2.same ((Same.refl H2).upd hp)) (.tup yaa (.cons (.str _) (.cons .non .nil)))
end
theorem qjb {K : PySem.W.Frag} {te : TE} {σ : L2.St} {d : PyData} {H : Hp} {g : TG} {tb rest : TS} {D : Ends} (h : Lay [] te σ d H) (k : ∀ v H', Same H H' → At H' v d → tFor (iList K (tC v)) g tb { D with nx := rest D } σ H') : tSeq (tFor (iList K te) g tb) rest D σ H :=
  h (fun b hb => by cases hb) H (Same.refl H) _ fun v H' s a => k v H' s (a.same (qa3 _ _))
def addrs (n : Nat) : List PyData := [.int (-1), .int n, .bool true, .none, .str "0", .list [.int 0], .int (10 ^ (30 : Int).toNat), .tuple [.int 0]]
def yh1 : List PyData := [.int 2, .int (-1), .bool true, .none, .str "0", .list [.int 0], .int (10 ^ (30 : Int).toNat)]
theorem yjm {n : Nat} (hn : n ≤ 64) : ∀ d ∈ addrs n, qeq n d = false := by
  intro d hd
  simp only [addrs, List.mem_cons, List.not_mem_nil, or_false] at hd
  rcases hd with rfl | rfl | rfl | rfl | rfl | rfl | rfl | rfl
  · exact decide_eq_false (fun z => by omega)
  · exact decide_eq_false (fun z => by omega)
  · rfl
  · rfl
  · rfl
  · rfl
  · refine decide_eq_false (fun z => ?_)
    have h1 : (10 : Int) ^ (30 : Int).toNat > 64 := by decide
    omega
  · rfl
theorem yiq : ∀ d ∈ yh1, bitD d = false := by
  intro d hd
  simp only [yh1, List.mem_cons, List.not_mem_nil, or_false] at hd
  rcases hd with rfl | rfl | rfl | rfl | rfl | rfl | rfl <;> first | rfl | decide
theorem yi2 (x : Str) (h : (PyData.str x).canLay0 = true) : (PyData.tuple [.str x, .none]).canLay0 = true ∧ (PyData.tuple [.str x, .none]).depth ≤ 60 := by
  refine ⟨?_, by simp [PyData.depth, PyData.depthAll]⟩
  show (PyData.canLay0 (.str x) && true) = true
  rw [h]
  rfl
def ybv (cs : List Int) : PyData := .list (cs.map PyData.int)
theorem yfc {H : Hp} : ∀ (cs : List Int), AtAll H (cs.map V.int) (cs.map PyData.int)
  | [] => .nil
  | c :: cs => .cons (.int c) (yfc cs)
theorem qev (cs : List Int) : (ybv cs).canLay0 = true ∧ (ybv cs).depth ≤ 60 := by
  refine ⟨?_, ?_⟩
  · show PyData.canLayAll0 (cs.map PyData.int) = true
    induction cs with
    | nil => rfl
    | cons c cs ih => exact ih
  · have := qcr (n := 0) (xs := cs.map PyData.int) fun x hx => by obtain ⟨c, _, rfl⟩ := List.mem_map.mp hx; simp [PyData.depth]
    simp only [ybv, PyData.depth]
    omega
section
variable {P : Program} {w : World} {K : PySem.W.Frag} {mg : Str → Option Value} {base : Heap} {C : Addr}
def qhz (C : Addr) : Sp := fun vs H Q _ => ∃ m L Cc us hs cs, ∃ turn at' : Nat, vs = [.ref m, .int (cs.length : Nat), .int turn, .int at'] ∧ MemO H C m L Cc us hs cs ∧ InR hs cs.length ∧ at' < cs.length ∧ cs.length ≤ 64 ∧ ∀ H' ds, UpC H Cc ds H' → Q (.bl true) H'
abbrev ybo : Stmt := top 66
theorem qdt : FnScope ["_law_memory", "_law_size", "_law_turn", "_law_at", "_law_held", "_law_address", "_law_way", "_law_bit"] ["_law_memory", "_law_size", "_law_turn", "_law_at"] (yab ybo) := ⟨rfl, rfl, rfl, by decide +kernel, rfl, by decide +kernel, by decide +kernel⟩
/- slots: 0 _law_memory, 1 _law_size, 2 _law_turn, 3 _law_at, 4 _law_held, 5 _law_address, 6 _law_way, 7 _law_bit -/
theorem og_stays (cm : CM K C) (yer : HasM P w K mg base C 1 "holds" ["self"] (yfy C)) (yc5 : Has P w K mg base 7 "_law_asked" ["_law_memory", "_law_way", "_law_address", "_law_bit"] (qh9 C)) (B : Bl mg)
    (F : FnAt K mg "_law_stays" ybo ["_law_memory", "_law_size", "_law_turn", "_law_at"]) : Has P w K mg base 8 "_law_stays" ["_law_memory", "_law_size", "_law_turn", "_law_at"] (qhz C) := by
  refine Has.ofQ F qdt (fun vs H Q E h => ?_) (fun f cdv A outer s H vs Q E hr h => ?_)
  · obtain ⟨m, L, Cc, us, hs, cs, turn, at', rfl, _⟩ := h
    rfl
  · obtain ⟨m, L, Cc, us, hs, cs, turn, at', rfl, mo, hi, hat, h64, q⟩ := h
    obtain ⟨⟨dx, ho⟩, mm⟩ := id mo
    have z2 : 2 ≤ sizeLine := by decide
    have sc := qdt
    refine ⟨_, (yan rfl (qad (yar (i := 4) sc.nd rfl (Or.inl rfl) (ygv cm.c yer hr (qab (pv 0))))
      (qad (qfq PassesOwn.never rfl (yhi (qav (ye9 (qab (qhu qe5 qac)) (qak (qab (pv 1)) (yam (qab yed) (yam (qab qb3) (yam (qab yal) (yee (qav (yam (qab qac) yad)) (qd5 (ybq qgz (qab qac) (qab qac)) (yd5 (ybh (yam (qab qac) yad)) yad)))))))))) (qan (i := 5) sc.nd rfl (Or.inl rfl))
        (yaf (qfq PassesOwn.never rfl (qi_of (qc5 rfl (B.of rfl) (qaa qac yac))) (qan (i := 6) sc.nd rfl (Or.inl rfl))
          (yaf (ybc (qa6 (op_neD hr) (qap yc5 hr (qak (qab (pv 0)) (qak (qab (pv 6)) (qak (qab (pv 5)) (qe0 (qbe qal (qav (yam (qab qac) (yam (qab qac) yad))) (ybq ygq (qab (pv 6)) (ybq qc3 (qab (pv 2)) (qab qac))) (fun _ _ => rfl)) yad))))) (ybh (yam (qab yal) (yam (qab qb3) yad))) (yai _))
            (yaf (qay (qab yed)))
            qa1)))))
      (qad (qfq PassesOwn.never rfl (yhi (qav (yam (qab qac) (ye9 (qab (qhu qe5 qac)) (yam (qab yed) (yam (qab qb3) (yam (qab yal) (yee (qav (yam (qab qac) yad)) (qd5 (ybq qgz (qab qac) (qab qac)) yad))))))))) (qan (i := 7) sc.nd rfl (Or.inl rfl))
        (yaf (ybc (qa6 (op_neD hr) (qap yc5 hr (qak (qab (pv 0)) (yam (qab qac) (qak (qab (pv 3)) (qak (qab (pv 7)) yad))))) (ybh (yam (qab yal) (yam (qab qb3) yad))) (yai _))
          (yaf (qay (qab yed)))
          qa1)))
      (yaf (qay (qab (ya6 (qat (op_eqD hr) (QE.of (ygv cm.c yer hr (qab (pv 0)))) (pv 4) (yai _)) (qbw (qat (op_eqD hr) (qah yc5 hr (yci (pv 0) (qgm qac (qgm qac (qgm qac yac))))) (yeg (qaa yal (qaa qb3 yac))) (yai _))))))))))), ?_⟩
    have lA := yi2 "address" (by decide +kernel)
    have lB := yi2 "bit" (by decide +kernel)
    have lT := yi2 "told" (by decide +kernel)
    refine ⟨_, rfl, m, dx, _, rfl, ho, lk_n, m, L, Cc, us, hs, cs, rfl, mo, fun D hD => ?_⟩
    have s1 : Same H (upd H D (.lst (cs.map V.int))) := (Same.refl H).upd hD
    have e1 : upd H D (.lst (cs.map V.int)) D = some (.lst (cs.map V.int)) := yaa
    revert s1 e1
    generalize upd H D (.lst (cs.map V.int)) = H1
    intro s1 e1
    refine gn ?_
    dsimp only
    refine qjb (d := .list (addrs cs.length)) ?_ fun v H2 s2 a2 => ?_
    · unfold addrs
      have i1 : At H1 (.int (cs.length : Nat)) (.int (cs.length : Nat)) := .int _
      repeat' (first | exact qcj | exact qfn | exact yc3 | exact ydq | exact qdl | exact qcc | refine yba ?_ ?_ | refine ydl ?_ | refine qb8 ?_ | exact ybd rfl (hid0 (by assumption)))
      exact qhm ⟨by decide, by decide, by decide⟩
    obtain ⟨la, wa, rfl, hla, hwa⟩ := a2.lstEq
    refine ⟨la, rfl, ⟨_, SqL.of hla⟩, yb1 (xs := wa) (fun i σ H' => ∃ q5 q6 : Option V, σ = [some (.ref m), some (.int (cs.length : Nat)), some (.int turn), some (.int at'), some (.ref D), q5, q6, none] ∧ Same H2 H') ⟨none, none, rfl, Same.refl H2⟩ (fun i σ H' _ ⟨_, _, _, s⟩ => SqL.of (s _ _ hla)) ?_ ?_⟩
    · rintro i x σ H3 hx ⟨q5, q6, rfl, s3⟩
      obtain ⟨d, hd, hax⟩ := hwa.get hx
      have hbad := yjm h64 d (List.mem_of_getElem? hd)
      refine ⟨2, rfl, by decide, by decide, yfk (n := 2) (fun j σ H' => ∃ q6 : Option V, σ = [some (.ref m), some (.int (cs.length : Nat)), some (.int turn), some (.int at'), some (.ref D), some x, q6, none] ∧ Same H2 H') ⟨q6, rfl, s3⟩ ?_ ?_⟩
      · rintro j σ H4 hj ⟨q6, rfl, s4⟩
        rw [Int.zero_add]
        have s14 := (s1.trans s2).trans s4
        refine ⟨_, rfl, _, rfl, _, rfl, z2, fun p hp => ?_⟩
        have s5 : Same H4 (upd H4 p (.lst [.int 0, .int 2])) := (Same.refl H4).upd hp
        have e5 : upd H4 p (.lst [.int 0, .int 2]) p = some (.lst [.int 0, .int 2]) := yaa
        revert s5 e5
        generalize upd H4 p (.lst [.int 0, .int 2]) = H5
        intro s5 e5
        have s15 := s14.trans s5
        have hix : ∃ b : Int, atI [V.int 0, .int 2] ((j : Int) * ((turn : Int) % 2)) = some (.int b) := by
          have h1 : (turn : Int) % 2 = 0 ∨ (turn : Int) % 2 = 1 := by omega
          have h2 : j = 0 ∨ j = 1 := by omega
          rcases h1 with h1 | h1 <;> rcases h2 with rfl | rfl <;> rw [h1] <;> first | exact ⟨0, rfl⟩ | exact ⟨2, rfl⟩
        obtain ⟨bb, hbb⟩ := hix
        have hmul : CMul (j : Int) ((turn : Int) % 2) := by
          unfold CMul
          have h1 : (turn : Int) % 2 = 0 ∨ (turn : Int) % 2 = 1 := by omega
          have h2 : j = 0 ∨ j = 1 := by omega
          rcases h1 with h1 | h1 <;> rcases h2 with rfl | rfl <;> rw [h1] <;> decide
        refine ⟨_, rfl, _, rfl, _, _, rfl, rfl, (by show (0 : Int) < 2; decide), _, _, rfl, rfl, hmul, p, _, _, _, rfl, rfl, SqL.of e5, hbb, ?_⟩
        refine ⟨m, L, Cc, us, hs, cs, j, x, .int bb, d, .int bb, rfl, mo.same s15, hi, .inl (hax.same (s4.trans s5)), .inl (.int _), .inl ⟨hj, hbad, fun r H6 s6 hr6 => ?_⟩⟩
        refine ⟨z2, fun p2 hp2 => ?_⟩
        refine ⟨_, _, hr6.same ((Same.refl H6).upd hp2), .tup yaa (.cons (.str _) (.cons .non .nil)), lA.1, lA.1, lA.2, _, rfl, iteN (by rw [SeqAt.eqv_refl _ lA.1]; rfl) ?_⟩
        exact ⟨_, rfl, ((s4.trans s5).trans s6).upd hp2⟩
      · rintro σ H4 ⟨q6, rfl, s4⟩
        exact ⟨_, _, rfl, s4⟩
    · rintro σ H3 ⟨q5, q6, rfl, s3⟩
      have s13 := (s1.trans s2).trans s3
      dsimp only
      refine qjb (d := .list yh1) ?_ fun v H4 s4 a4 => ?_
      · unfold yh1
        repeat' (first | exact qcj | exact qfn | exact yc3 | exact ydq | exact qdl | exact qcc | refine yba ?_ ?_ | refine ydl ?_ | refine qb8 ?_ | exact ybd rfl (hid0 (by assumption)))
        exact qhm ⟨by decide, by decide, by decide⟩
      obtain ⟨lb, wb, rfl, hlb, hwb⟩ := a4.lstEq
      refine ⟨lb, rfl, ⟨_, SqL.of hlb⟩, yb1 (xs := wb) (fun i σ H' => ∃ q7 : Option V, σ = [some (.ref m), some (.int (cs.length : Nat)), some (.int turn), some (.int at'), some (.ref D), q5, q6, q7] ∧ Same H4 H') ⟨none, rfl, Same.refl H4⟩ (fun i σ H' _ ⟨_, _, s⟩ => SqL.of (s _ _ hlb)) ?_ ?_⟩
      · rintro i x σ H5 hx ⟨q7, rfl, s5⟩
        obtain ⟨d, hd, hax⟩ := hwb.get hx
        have hbad := yiq d (List.mem_of_getElem? hd)
        have hok : qeq cs.length (.int (at' : Int)) = true := decide_eq_true ⟨by omega, by omega⟩
        refine ⟨_, rfl, _, rfl, _, rfl, m, L, Cc, us, hs, cs, 1, .int at', x, .int at', d, rfl, mo.same ((s13.trans s4).trans s5), hi, .inl (.int _), .inl (hax.same s5), .inr (.inl ⟨rfl, hok, hbad, fun r H6 s6 hr6 => ?_⟩)⟩
        refine ⟨z2, fun p2 hp2 => ?_⟩
        refine ⟨_, _, hr6.same ((Same.refl H6).upd hp2), .tup yaa (.cons (.str _) (.cons .non .nil)), lB.1, lB.1, lB.2, _, rfl, iteN (by rw [SeqAt.eqv_refl _ lB.1]; rfl) ?_⟩
        exact ⟨_, rfl, (s5.trans s6).upd hp2⟩
      · rintro σ H5 ⟨q7, rfl, s5⟩
        have s15 := (s13.trans s4).trans s5
        have mo5 := mo.same s15
        have ho5 := s15 _ _ ho
        refine ⟨_, rfl, m, dx, _, rfl, ho5, lk_n, m, L, Cc, us, hs, cs, rfl, mo5, fun D2 hD2 => ?_⟩
        have s6 : Same H5 (upd H5 D2 (.lst (cs.map V.int))) := (Same.refl H5).upd hD2
        have e6 : upd H5 D2 (.lst (cs.map V.int)) D2 = some (.lst (cs.map V.int)) := yaa
        revert s6 e6
        generalize upd H5 D2 (.lst (cs.map V.int)) = H6
        intro s6 e6
        have s16 := s15.trans s6
        have eD : H6 D = some (.lst (cs.map V.int)) := (((s2.trans s3).trans s4).trans (s5.trans s6)) _ _ e1
        refine ⟨_, rfl, ybv cs, ybv cs, .lst e6 (yfc cs), .lst eD (yfc cs), (qev cs).1, (qev cs).1, (qev cs).2, _, rfl, iteB (SeqAt.eqv_refl _ (qev cs).1) ?_⟩
        refine ⟨_, rfl, m, L, Cc, us, hs, cs, 1, .int 0, .int 0, .int 0, .int 0, rfl, mo.same s16, hi, .inl (.int _), .inl (.int _), .inr (.inr ⟨rfl, decide_eq_true ⟨by omega, by omega⟩, by decide, fun r H7 ds u7 hr7 => ?_⟩)⟩
        refine ⟨z2, fun p2 hp2 => ?_⟩
        refine ⟨_, _, hr7.same ((Same.refl H7).upd hp2), .tup yaa (.cons (.str _) (.cons .non .nil)), lT.1, lT.1, lT.2, ?_⟩
        rw [SeqAt.eqv_refl _ lT.1]
        exact q _ ds (((UpC.of s16 mm.hc).trans u7).same ((Same.refl H7).upd hp2))
end
def vD : V → PyData | .int i => .int i | .str x => .str x | .bl b => .bool b | _ => .none
def hmD (h : Hm) : PyData := .tuple (.str h.w :: (h.c.map PyData.int ++ h.r.map vD))
theorem rest_at {H : Hp} {ns : List Str} {vs : List V} (h : Rest ns vs) : AtAll H vs (vs.map vD) := by
  induction h with
  | nil => exact .nil
  | bit hb _ ih => obtain ⟨b, rfl⟩ := hb; exact .cons (.int _) ih
  | how hb _ ih => rcases hb with rfl | rfl <;> exact .cons (.str _) ih
theorem hm_at {H : Hp} {v : V} {h : Hm} {ns : List Str} (x : HAt H v h) (ok : okH h ns) : At H v (hmD h) := by
  obtain ⟨a, rfl, ha⟩ := x
  exact .tup ha (.cons (.str _) ((yfc h.c).append (rest_at ok.rest)))
theorem qiz {ns : List Str} {vs : List V} (h : Rest ns vs) : ybe ns (vs.map vD) = true := by
  induction h with
  | nil => rfl
  | bit hb _ ih =>
    obtain ⟨b, rfl⟩ := hb
    show (qdh "bit" (.int (b2i b)) && _) = true
    rw [ih]
    cases b <;> decide +kernel
  | how hb _ ih =>
    rcases hb with rfl | rfl
    · show (qdh "how" (.str "and") && _) = true
      rw [ih]
      decide +kernel
    · show (qdh "how" (.str "or") && _) = true
      rw [ih]
      decide +kernel
theorem ye5 {ns : List Str} {r : List PyData} (hr : ybe ns r = true) : ∀ (c : List Int), (∀ x ∈ c, 0 ≤ x ∧ x < 64) → ybe (nmL c.length ns) (c.map PyData.int ++ r) = true
  | [], _ => hr
  | x :: c, h => by
    show (qdh "cell" (.int x) && ybe (nmL c.length ns) (c.map PyData.int ++ r)) = true
    rw [ye5 hr c fun y hy => h y (List.mem_cons_of_mem _ hy), Bool.and_true]
    unfold qdh
    rw [if_pos rfl]
    exact decide_eq_true (h x (List.mem_cons_self ..))
theorem yik {ns : List Str} {r : List V} (h : Rest ns r) : ∀ n ∈ ns, n = "bit" ∨ n = "how" := by
  induction h with
  | nil => intro n hn; cases hn
  | bit _ _ ih =>
    intro n hn
    rcases List.mem_cons.mp hn with rfl | hn
    · exact .inl rfl
    · exact ih n hn
  | how _ _ ih =>
    intro n hn
    rcases List.mem_cons.mp hn with rfl | hn
    · exact .inr rfl
    · exact ih n hn
theorem yj2 {h : Hm} {ns : List Str} (ok : okH h ns) : ybb h.w = h.c.length := by
  have hk : KTD.inKeys h.w tabP = true := by rw [← KTD.isSome_datumAt, ok.tab]; rfl
  obtain ⟨ns', ht, _, hn'⟩ := qjj hk
  have hrest := yik ok.rest
  have e := ht.symm.trans ok.tab
  have e2 := Option.some.inj e
  have cnt : ∀ (n : Nat) (ms : List Str), (∀ x ∈ ms, x = "bit" ∨ x = "how") → (qau n ms).countP (fun v => decide (v = V.str "cell")) = n := fun n ms hm => by
    unfold qau
    rw [List.countP_append, List.countP_replicate, List.countP_eq_zero.mpr]
    · simp
    · intro v hv
      obtain ⟨x, hx, rfl⟩ := List.mem_map.mp hv
      rcases hm x hx with rfl | rfl <;> decide +kernel
  have h1 := cnt (ybb h.w) ns' hn'
  rw [e2, cnt _ ns hrest] at h1
  exact h1.symm
theorem qhb {h : Hm} {ns : List Str} (ok : okH h ns) : qgi (hmD h) = true ∧ yfq (hmD h) = h.c := by
  have hk : KTD.inKeys h.w tabP = true := by rw [← KTD.isSome_datumAt, ok.tab]; rfl
  have hc : ybr (ybb h.w) (h.c.map PyData.int ++ h.r.map vD) = h.c := by
    unfold ybr
    rw [yj2 ok, List.take_append_of_le_length (by simp), List.take_of_length_le (by simp), List.map_map]
    simp [Function.comp_def, intD]
  refine ⟨?_, hc⟩
  show (KTD.inKeys h.w tabP && (ybe (nmOf h.w) (h.c.map PyData.int ++ h.r.map vD) && decide (ybr (ybb h.w) (h.c.map PyData.int ++ h.r.map vD)).Nodup)) = true
  rw [hk, hc, qhi ok.tab, ye5 (qiz ok.rest) h.c ok.rg, decide_eq_true ok.nd]
  rfl
theorem HsV.cons {H : Hp} {u : V} {us : List V} {h : Hm} {hs : List Hm} (x : HsV H (u :: us) (h :: hs)) : HAt H u h ∧ HsV H us hs :=
  ⟨x.at_ 0 u h rfl rfl, ⟨by have := x.len; simpa using this, fun i v g h1 h2 => x.at_ (i + 1) v g h1 h2⟩⟩
theorem hs_at {H : Hp} : ∀ {us : List V} {hs : List Hm}, HsV H us hs → (∀ h ∈ hs, ∃ ns, okH h ns) → AtAll H us (hs.map hmD)
  | [], [], _, _ => .nil
  | u :: us, h :: hs, x, o => by
    obtain ⟨x1, x2⟩ := x.cons
    obtain ⟨ns, ok⟩ := o h (List.mem_cons_self ..)
    exact .cons (hm_at x1 ok) (hs_at x2 fun g hg => o g (List.mem_cons_of_mem _ hg))
  | [], _ :: _, x, _ => by have := x.len; simp at this
  | _ :: _, [], x, _ => by have := x.len; simp at this
theorem yea : ∀ {hs : List Hm}, (∀ h ∈ hs, ∃ ns, okH h ns) → (hs.map hmD).flatMap yfq = allC hs
  | [], _ => rfl
  | h :: hs, o => by
    obtain ⟨ns, ok⟩ := o h (List.mem_cons_self ..)
    have ih := yea (hs := hs) fun g hg => o g (List.mem_cons_of_mem _ hg)
    unfold allC at ih ⊢
    rw [List.map_cons, List.flatMap_cons, List.flatMap_cons, ih, (qhb ok).2]
theorem hs_good {H : Hp} {L : Addr} {us : List V} {hs : List Hm} {S : List Int} (hL : H L = some (.lst us)) (hv : HsV H us hs) (ok : okHs hs S) : At H (.ref L) (.list (hs.map hmD)) ∧ qao (.list (hs.map hmD)) = none ∧ ya1 (.list (hs.map hmD)) = allC hs := by
  refine ⟨.lst hL (hs_at hv ok.ok), qe9 (by rw [List.length_map]; have := ok.len; omega) fun j hj => ?_, yea ok.ok⟩
  rw [List.length_map] at hj
  unfold yck
  have e1 : (hs.map hmD).getD j .none = hmD hs[j] := by rw [List.getD_eq_getElem?_getD, List.getElem?_map, List.getElem?_eq_getElem hj]; rfl
  obtain ⟨ns, og⟩ := ok.ok _ (List.getElem_mem hj)
  have e2 : accH (hs.map hmD) (j + 1) = allC (hs.take (j + 1)) := by
    unfold accH
    rw [← List.map_take]
    exact yea fun g hg => ok.ok g (List.mem_of_mem_take hg)
  rw [e1, (qhb og).1, e2, decide_eq_false (by have := ok.few (l := hs.take (j + 1)) (fun h hh => List.mem_of_mem_take hh); omega)]
  rfl
theorem qei {x : Int} (h : 0 ≤ x ∧ x < 64) : Sm 0 0 (.int x) := by
  have : ∀ n : Nat, n < 64 → (PyData.int (n : Int)).showable = true ∧ PyData.leavesShort 40 (.int (n : Int)) = true := by decide +kernel
  have h1 := this x.toNat (by omega)
  rw [show ((x.toNat : Nat) : Int) = x by omega] at h1
  exact ⟨h1.1, by simp [PyData.depth], h1.2, by simp [PyData.bulk]⟩
theorem hm_sm {h : Hm} {ns : List Str} (ok : okH h ns) : Sm 1 100 (hmD h) := by
  have hk : KTD.inKeys h.w tabP = true := by rw [← KTD.isSome_datumAt, ok.tab]; rfl
  have hw : Sm 0 8 (.str h.w) := by
    have : h.w = "stuck" ∨ h.w = "slow" ∨ h.w = "forgets" ∨ h.w = "misreads" ∨ h.w = "turns" ∨ h.w = "sets" ∨ h.w = "keeps" ∨ h.w = "nowhere" ∨ h.w = "other" ∨ h.w = "both" := by
      simpa [tabP, KTD.inKeys] using hk
    rcases this with e | e | e | e | e | e | e | e | e | e <;> rw [e] <;> exact ⟨by decide +kernel, by decide +kernel, by decide +kernel, by decide +kernel⟩
  have hr : ∀ {ns : List Str} {r : List V}, Rest ns r → ∀ x ∈ r.map vD, Sm 0 8 x := fun {ns r} h => by
    induction h with
    | nil => intro x hx; cases hx
    | bit hb _ ih =>
      obtain ⟨b, rfl⟩ := hb
      intro x hx
      rcases List.mem_cons.mp hx with rfl | hx
      · cases b <;> exact ⟨by decide +kernel, by decide +kernel, by decide +kernel, by decide +kernel⟩
      · exact ih x hx
    | how hb _ ih =>
      intro x hx
      rcases List.mem_cons.mp hx with rfl | hx
      · rcases hb with rfl | rfl <;> exact ⟨by decide +kernel, by decide +kernel, by decide +kernel, by decide +kernel⟩
      · exact ih x hx
  refine (Sm.tuple (n := 5) (D := 0) (B := 8) (fun x hx => ?_) ?_).mono
  · rcases List.mem_cons.mp hx with rfl | hx
    · exact hw
    · rcases List.mem_append.mp hx with hx | hx
      · obtain ⟨c, hc, rfl⟩ := List.mem_map.mp hx
        exact (qei (ok.rg c hc)).mono
      · exact hr ok.rest x hx
  · have h1 := ok.cl
    have h2 := ok.rl
    have h3 := ok.rest.len
    simp
    omega
theorem hs_sm {hs : List Hm} {S : List Int} (ok : okHs hs S) : Sm 2 400 (.list (hs.map hmD)) :=
  (Sm.list (n := 3) (D := 1) (B := 100) (fun x hx => by
    obtain ⟨h, hh, rfl⟩ := List.mem_map.mp hx
    obtain ⟨ns, og⟩ := ok.ok h hh
    exact hm_sm og) (by rw [List.length_map]; exact ok.len)).mono
end Mh
set_option maxHeartbeats 2000000
namespace L2
open PySem PySem.Spec PyProof.Rows PySem.W
inductive AllX (H : Hp) : List V → List PyData → Prop
  | nil : AllX H [] []
  | cons {v : V} {d : PyData} {vs : List V} {ds : List PyData} : AtX H v d → AllX H vs ds → AllX H (v :: vs) (d :: ds)
theorem AllX.same {H H' : Hp} (s : Same H H') : ∀ {vs : List V} {ds : List PyData}, AllX H vs ds → AllX H' vs ds
  | _, _, .nil => .nil
  | _, _, .cons a r => .cons (a.same s) (r.same s)
theorem AtX.readsX {P : Program} {w : World} {H : Hp} {h : Heap} {v : V} {d : PyData} {u : Value} (ok : HOk P w H h) (a : AtX H v d) (r : RelV v u) : ∃ as, Reads h u d as ∧ (d.hasDict = true → sysModules ∉ as) := by
  rcases a with a | ⟨e, p, ea, hp⟩
  · obtain ⟨as, q⟩ := a.reads ok r
    exact ⟨as, q, fun z => by rw [a.noDict] at z; cases z⟩
  · subst e ea
    cases r
    obtain ⟨_, hm, vs, kv, o, es, ep, e1, e2, e3, e4, e5, _⟩ := ok p _ hp
    cases kv
    have hes : es.toList = [] := by
      revert e5
      generalize es.toList = l
      intro e5
      cases e5
      rfl
    refine ⟨p :: [] ++ [], .dict e1 e2.1 e3 (by rw [hes]; exact .nil) (by rw [hes]; exact .nil), fun _ hmem => ?_⟩
    have : sysModules = p := by simpa using hmem
    rw [this] at hm
    simp at hm
theorem AllX.repr {P : Program} {w : World} {H : Hp} {h : Heap} (ok : HOk P w H h) : ∀ {vs : List V} {ds : List PyData} {us : List Value}, AllX H vs ds → Vals vs us → PyData.showableAll ds = true → (∀ t ∈ PyData.shownAll ds, t.length ≤ sizeLine) →
    ∃ as bs, ReadsAll h us ds as ∧ ReadAtMost h (PyData.depthAll ds) bs ∧ ReprAllK P w bs h (PyData.depthAll ds) us (PyData.shownAll ds)
  | _, _, _, .nil, .nil, _, _ => ⟨_, [], .nil, (fun _ h => nomatch h), by simp only [PyData.shownAll]; exact .nil⟩
  | _, _, _, .cons (d := d) (ds := ds) a x, .cons r rs, hs, hz => by
    have hs' : d.showable = true ∧ PyData.showableAll ds = true := by simpa [PyData.showableAll] using hs
    obtain ⟨as, rd, hsm⟩ := a.readsX ok r
    obtain ⟨b1, hb1, k1⟩ := ReprK.of_reads (prog := P) (w := w) rd hs'.1 hsm (hz _ (by simp only [PyData.shownAll]; exact List.mem_cons_self ..))
    obtain ⟨as2, b2, rd2, hb2, k2⟩ := AllX.repr ok x rs hs'.2 (fun t ht => hz t (by simp only [PyData.shownAll]; exact List.mem_cons_of_mem _ ht))
    refine ⟨_, b1 ++ b2, .cons rd rd2, ?_, ?_⟩
    · intro b hm
      simp only [PyData.depthAll]
      rcases List.mem_append.mp hm with hm | hm
      · obtain ⟨d', as', r', hd'⟩ := hb1 b hm
        exact ⟨d', as', r', Nat.le_trans hd' (Nat.le_max_left _ _)⟩
      · obtain ⟨d', as', r', hd'⟩ := hb2 b hm
        exact ⟨d', as', r', Nat.le_trans hd' (Nat.le_max_right _ _)⟩
    · simp only [PyData.depthAll, PyData.shownAll]
      exact .cons ((k1.more fun b hb => List.mem_append_left _ hb).level_le (Nat.le_max_left _ _)) (k2.more_le (fun b hb => List.mem_append_right _ hb) (Nat.le_max_right _ _))
section
variable {X : Cx}
def rReprXL : List V → Hp → VK → Prop := fun xs H Q => ∃ a vs ds, xs = [.ref a] ∧ H a = some (.lst vs) ∧ vs ≠ [] ∧ AllX H vs ds ∧ (PyData.list ds).showable = true ∧ (PyData.list ds).depth ≤ 60 ∧ (PyData.list ds).shown.length ≤ sizeLine ∧ Q (.str (PyData.list ds).shown) H
theorem qe8 {k : Nat} (hr : Room k X.A) : ycz X (.builtin "repr") rReprXL := by
  intro pins s σ H xs us Q I r h
  obtain ⟨a, vs, ds, rfl, hL, hne, hx, hs, hd, hz, q⟩ := h
  cases r with
  | cons r rr =>
    cases rr
    cases r
    obtain ⟨z, its, n, rv, ho⟩ := I.hok _ _ hL
    have hz' : (listText (PyData.shownAll ds)).length ≤ sizeLine := by simpa only [PyData.shown] using hz
    obtain ⟨as, bs, rd, hb, hk⟩ := AllX.repr I.hok hx rv (by simpa [PyData.showable] using hs) (fun t ht => Nat.le_trans (listText_mem_le ht) hz')
    have hna : a ∉ bs := not_mem_of_deeper (.list ho rfl rfl (by simpa using rd)) (by simp only [PyData.depth]; omega) hb
    have hu := hr.units
    simp only [PyData.depth] at hd
    cases hits : its with
    | nil => subst hits; cases rv; exact absurd rfl hne
    | cons x l =>
      subst hits
      refine call_repr_slot (by omega) ⟨_, ho, rfl⟩ F.slot_list_repr.toG ?_
      refine call_list_reprK ho rfl rfl hna (by simpa using hk.length_eq) (fun i y e => hk.item i y (by simpa using e)) hr.gd (fun b _ => Clear.nil b) (by show X.A.units + 1 + (PyData.depthAll ds + 1) < cLine; omega) (fun _ _ z => z) (fun h' u tk hkp => ⟨_, _, rfl, ?_⟩) hz'
      refine ⟨.str _, H, I.kept hkp, ⟨_, rfl⟩, ?_⟩
      simp only [PyData.shown] at q
      exact q
end
section
variable {X : Cx}
theorem qkj : OpR X (binaryOp .Mult) (fun x y H Q => ∃ i n, x = .str i ∧ y = .int n ∧ MulOk i n ∧ Q (.str (Txt.mul i n)) H) := by
  intro pins s σ H x y v u Q I rx ry h
  obtain ⟨i, n, rfl, rfl, ok, q⟩ := h
  obtain ⟨t, rfl⟩ := rx
  obtain ⟨t', rfl⟩ := ry
  exact SB.mul ok fun t' k => ⟨.str _, H, I.tok _, ⟨_, rfl⟩, q⟩
end
end L2
namespace L2
open PySem PyProof.Rows
theorem AllX.length {H : Hp} : ∀ {vs : List V} {ds : List PyData}, AllX H vs ds → vs.length = ds.length
  | _, _, .nil => rfl
  | _, _, .cons _ r => by rw [List.length_cons, List.length_cons, r.length]
theorem AllX.append {H : Hp} : ∀ {vs ws : List V} {ds es : List PyData}, AllX H vs ds → AllX H ws es → AllX H (vs ++ ws) (ds ++ es)
  | _, _, _, _, .nil, y => y
  | _, _, _, _, .cons a r, y => .cons a (r.append y)
theorem AtAll.allX {H : Hp} : ∀ {vs : List V} {ds : List PyData}, AtAll H vs ds → AllX H vs ds
  | _, _, .nil => .nil
  | _, _, .cons a r => .cons (.inl a) (AtAll.allX r)
theorem AllX.getD {H : Hp} : ∀ {vs : List V} {ds : List PyData} {i : Nat} {d : PyData}, AllX H vs ds → ds[i]? = some d → ∃ v, vs[i]? = some v ∧ AtX H v d
  | _, _, 0, _, .cons a _, h => by cases h; exact ⟨_, rfl, a⟩
  | _, _, i + 1, _, .cons _ r, h => r.getD (i := i) h
theorem AllX.mem {H : Hp} {vs : List V} {ds : List PyData} {i : Int} (h : AllX H vs ds) (h0 : 0 ≤ i) (h1 : i < ds.length) : ∃ v d, atI vs i = some v ∧ ds[i.toNat]? = some d ∧ AtX H v d := by
  obtain ⟨v, hv, ha⟩ := h.getD (List.getElem?_eq_getElem (l := ds) (i := i.toNat) (by omega))
  exact ⟨v, _, ye4 h0 hv, List.getElem?_eq_getElem (by omega), ha⟩
def LayX (L : List Addr) (te : TE) (σ : L2.St) (d : PyData) (H : Hp) : Prop := (∀ b ∈ L, H b ≠ none) → ∀ H1, Same H H1 → ∀ Q : VK, (∀ v H', Same H1 H' → AtX (yas H' L) v d → Q v H') → te σ H1 Q
def LayXA (L : List Addr) (ta : TA) (σ : L2.St) (ds : List PyData) (H : Hp) : Prop := (∀ b ∈ L, H b ≠ none) → ∀ H1, Same H H1 → ∀ Q : List V → Hp → Prop, (∀ vs H', Same H1 H' → AllX (yas H' L) vs ds → Q vs H') → ta σ H1 Q
def LayL (L : List Addr) (te : TE) (σ : L2.St) (ds : List PyData) (H : Hp) : Prop := (∀ b ∈ L, H b ≠ none) → ∀ H1, Same H H1 → ∀ Q : VK, (∀ a vs H', Same H1 H' → yas H' L a = some (.lst vs) → AllX (yas H' L) vs ds → Q (.ref a) H') → te σ H1 Q
section
variable {K : PySem.W.Frag} {σ : L2.St} {H : Hp} {te tf : TE} {ta : TA} {d : PyData} {ds es : List PyData} {L : List Addr}
theorem qdo (h : Lay L te σ d H) : LayX L te σ d H := fun hL H1 s Q k => h hL H1 s Q fun v H' s' a => k v H' s' (.inl a)
theorem yg0 : LayX L tDNewK σ (.dict []) H := fun hL H1 s Q k => fun p hp => k (.ref p) _ ((Same.refl H1).upd hp) (.inr ⟨rfl, p, rfl, by rw [ybj (yfo hL s hp)]; exact yaa⟩)
theorem qg4 : LayXA L tNil σ [] H := fun hL H1 s Q k => k [] H1 (Same.refl H1) .nil
theorem ybg (h : LayX L te σ d H) (r : LayXA L ta σ ds H) : LayXA L (yc4 te ta) σ (d :: ds) H := fun hL H1 s Q k =>
  h hL H1 s _ fun v H2 s2 a2 => r hL H2 (s.trans s2) _ fun vs H3 s3 a3 => k (v :: vs) H3 (s2.trans s3) (.cons (a2.same (yaq s3 L)) a3)
theorem yh4 (h : LayXA L ta σ ds H) (z : ds.length ≤ 1000 := by exact Nat.le_of_ble_eq_true rfl) : LayL L (tLst ta) σ ds H := fun hL H1 s Q k =>
  h hL H1 s _ fun vs H2 s2 a2 => ⟨by rw [a2.length]; exact Nat.le_trans z (by decide), fun p hp => k p vs _ (s2.upd hp) (by rw [ybj (yfo hL (s.trans s2) hp)]; exact yaa) (a2.same (yaq ((Same.refl H2).upd hp) L))⟩
theorem ye7 (h : Lay L te σ (.list ds) H) : LayL L te σ ds H := fun hL H1 s Q k => h hL H1 s Q fun v H' s' a => by
  obtain ⟨p, vs, rfl, hp, hw⟩ := a.lstEq
  exact k p vs H' s' hp (AtAll.allX hw)
theorem layl_var {i : Nat} {a : Addr} {vs : List V} (hσ : σ[i]? = some (some (.ref a))) (h : yas H L a = some (.lst vs)) (hx : AllX (yas H L) vs ds) : LayL L (tVar i) σ ds H := fun hL H1 s Q k => ⟨_, hσ, k a vs H1 (Same.refl H1) (yaq s L _ _ h) (hx.same (yaq s L))⟩
theorem ygc (h1 : LayL L te σ ds H) (h2 : LayL L tf σ es H) (z : ds.length + es.length ≤ 1000) : LayL L (tOp rCat te tf) σ (ds ++ es) H := fun hL H1 s Q k =>
  h1 hL H1 s _ fun a vs H2 s2 e2 a2 => h2 hL H2 (s.trans s2) _ fun b us H3 s3 e3 a3 =>
    ⟨a, b, vs, us, rfl, rfl, s3 _ _ (qa3 _ _ _ _ e2), qa3 _ _ _ _ e3, by rw [a2.length, a3.length]; exact Nat.le_trans z (by decide), fun p hp => k p _ _ ((s2.trans s3).upd hp) (by rw [ybj (yfo hL ((s.trans s2).trans s3) hp)]; exact yaa) (((a2.same (yaq s3 L)).append a3).same (yaq ((Same.refl H3).upd hp) L))⟩
theorem qgb {tb : TE} {i : Int} (h : LayL L te σ ds H) (hb : ∀ H1, Same H H1 → ∀ Q : VK, Q (.int i) H1 → tb σ H1 Q) (h0 : 0 ≤ i) (h1 : i < ds.length) {d : PyData} (hd : ds[i.toNat]? = some d) : LayX L (tOp (rIxL K) te tb) σ d H := fun hL H1 s Q k =>
  h hL H1 s _ fun a vs H2 s2 e2 a2 => hb H2 (s.trans s2) _ (by
    obtain ⟨v, d', hv, hd', ha⟩ := a2.mem h0 h1
    rw [hd] at hd'
    cases hd'
    exact ⟨a, vs, i, v, rfl, rfl, SqL.of (qa3 _ _ _ _ e2), hv, k v H2 s2 ha⟩)
end
end L2
set_option maxHeartbeats 4000000
namespace Mh
open PySem L2 PyProof.Rows Mx
def qfg (n : Nat) : List PyData := [.int 0, .int 65, .bool true, .none, .str "4", .int (-1), .int ((n : Int) + 1), .int ((n : Int) - 1), .int (10 ^ (30 : Int).toNat), .list [.int n]]
theorem yjo {d dh : PyData} {cs : List Int} (h : yfu d = true → intD d ≠ cs.length) : qcd d dh (ybv cs) = false := by
  unfold qcd
  cases hs : yfu d with
  | false => rfl
  | true =>
    have e : qdp (intD d) (ybv cs) = (decide (((cs.map PyData.int).length : Int) = intD d) && ((cs.map PyData.int).map bitD).all id) := rfl
    have e2 : decide (((cs.map PyData.int).length : Int) = intD d) = false := decide_eq_false (by rw [List.length_map]; exact fun z => h hs z.symm)
    rw [e, e2]
    simp
theorem ykg {n : Nat} {cs : List Int} (hl : cs.length = n) : ∀ d ∈ qfg n, ∀ dh, qcd d dh (ybv cs) = false := by
  intro d hd dh
  refine yjo fun hs => ?_
  simp only [qfg, List.mem_cons, List.not_mem_nil, or_false] at hd
  rcases hd with rfl | rfl | rfl | rfl | rfl | rfl | rfl | rfl | rfl | rfl
  · exact absurd hs (by decide)
  · exact absurd hs (by decide)
  · exact absurd hs (by decide)
  · exact absurd hs (by decide)
  · exact absurd hs (by decide +kernel)
  · exact absurd hs (by decide)
  · show (n : Int) + 1 ≠ _; omega
  · show (n : Int) - 1 ≠ _; omega
  · exact absurd hs (by decide +kernel)
  · exact absurd hs (by simp [yfu])
theorem sizes_sm {n : Nat} (h1 : 4 ≤ n) (h2 : n ≤ 12) : ∀ d ∈ qfg n, Sm 2 20 d := by
  intro d hd
  simp only [qfg, List.mem_cons, List.not_mem_nil, or_false] at hd
  rcases hd with rfl | rfl | rfl | rfl | rfl | rfl | rfl | rfl | rfl | rfl
  · exact ⟨by decide +kernel, by decide +kernel, by decide +kernel, by decide +kernel⟩
  · exact ⟨by decide +kernel, by decide +kernel, by decide +kernel, by decide +kernel⟩
  · exact ⟨by decide +kernel, by decide +kernel, by decide +kernel, by decide +kernel⟩
  · exact ⟨by decide +kernel, by decide +kernel, by decide +kernel, by decide +kernel⟩
  · exact ⟨by decide +kernel, by decide +kernel, by decide +kernel, by decide +kernel⟩
  · exact ⟨by decide +kernel, by decide +kernel, by decide +kernel, by decide +kernel⟩
  · exact (qei ⟨by omega, by omega⟩).mono
  · exact (qei ⟨by omega, by omega⟩).mono
  · exact ⟨by decide +kernel, by decide +kernel, by decide +kernel, by decide +kernel⟩
  · exact (Sm.list (n := 1) (D := 0) (B := 0) (fun x hx => by rw [List.mem_singleton.mp hx]; exact qei ⟨by omega, by omega⟩) (by simp)).mono
def oddB : List PyData := [.int 2, .bool true, .none, .int (-1)]
def qiq (is : List PyData) (at' n : Nat) : List PyData := [.list is.dropLast, .list (is ++ [.int 0]), .tuple is, .none] ++ oddB.map (fun x => .list (is.take at' ++ [x] ++ is.drop (at' + 1))) ++ [.str (Txt.mul "0" n), .dict []]
theorem qit {dz dh dc : PyData} (h : qdp (intD dz) dc = false) : qcd dz dh dc = false := by
  unfold qcd
  rw [h]
  simp
theorem cont_bad {is : List PyData} {at' n : Nat} (hl : is.length = n) (hn : 1 ≤ n) (ha : at' < n) : ∀ d ∈ qiq is at' n, qdp n d = false := by
  intro d hd
  have hlen : ∀ {ds : List PyData}, ds.length ≠ n → qdp n (.list ds) = false := fun {ds} h => by
    show (decide ((ds.length : Int) = n) && _) = false
    rw [decide_eq_false (by omega)]
    rfl
  unfold qiq at hd
  rcases List.mem_append.mp hd with hd | hd
  · rcases List.mem_append.mp hd with hd | hd
    · simp only [List.mem_cons, List.not_mem_nil, or_false] at hd
      rcases hd with rfl | rfl | rfl | rfl
      · exact hlen (by rw [List.length_dropLast]; omega)
      · exact hlen (by simp; omega)
      · rfl
      · rfl
    · obtain ⟨x, hx, rfl⟩ := List.mem_map.mp hd
      have hbx : bitD x = false := by
        simp only [oddB, List.mem_cons, List.not_mem_nil, or_false] at hx
        rcases hx with rfl | rfl | rfl | rfl <;> first | rfl | decide
      show (decide _ && ((is.take at' ++ [x] ++ is.drop (at' + 1)).map bitD).all id) = false
      have : ((is.take at' ++ [x] ++ is.drop (at' + 1)).map bitD).all id = false := by
        rw [List.all_eq_false]
        exact ⟨false, by simp only [List.map_append, List.mem_append, List.map_cons, List.mem_cons]; exact .inl (.inr (.inl hbx.symm)), by decide⟩
      rw [this]
      simp
  · simp only [List.mem_cons, List.not_mem_nil, or_false] at hd
    rcases hd with rfl | rfl <;> rfl
theorem qhn {cs : List Int} (h : bits cs) : ∀ x ∈ cs.map PyData.int, Sm 0 0 x := fun x hx => by
  obtain ⟨c, hc, rfl⟩ := List.mem_map.mp hx
  obtain ⟨b, rfl⟩ := h c hc
  exact qei (by cases b <;> decide)
theorem mul_sm : ∀ n : Nat, n ≤ 12 → Sm 0 12 (.str (Txt.mul "0" (n : Int))) := by
  have : ∀ n : Nat, n < 13 → (PyData.str (Txt.mul "0" (n : Int))).showable = true ∧ (PyData.str (Txt.mul "0" (n : Int))).depth ≤ 0 ∧ (PyData.str (Txt.mul "0" (n : Int))).leavesShort 40 = true ∧ (PyData.str (Txt.mul "0" (n : Int))).bulk ≤ 12 := by decide +kernel
  exact fun n hn => this n (by omega)
theorem cont_sm {cs : List Int} {at' n : Nat} (hl : cs.length = n) (hn : n ≤ 12) (hb : bits cs) : ∀ d ∈ qiq (cs.map PyData.int) at' n, Sm 2 40 d := by
  have hi := qhn hb
  intro d hd
  unfold qiq at hd
  rcases List.mem_append.mp hd with hd | hd
  · rcases List.mem_append.mp hd with hd | hd
    · simp only [List.mem_cons, List.not_mem_nil, or_false] at hd
      rcases hd with rfl | rfl | rfl | rfl
      · exact (Sm.list (n := 13) (D := 0) (B := 0) (fun x hx => hi x (List.dropLast_subset _ hx)) (by simp; omega)).mono
      · exact (Sm.list (n := 13) (D := 0) (B := 0) (fun x hx => by
          rcases List.mem_append.mp hx with hx | hx
          · exact hi x hx
          · rw [List.mem_singleton.mp hx]; exact qei (by decide)) (by simp; omega)).mono
      · exact (Sm.tuple (n := 13) (D := 0) (B := 0) hi (by simp; omega)).mono
      · exact ⟨by decide +kernel, by decide +kernel, by decide +kernel, by decide +kernel⟩
    · obtain ⟨x, hx, rfl⟩ := List.mem_map.mp hd
      have hbx : Sm 0 0 x := by
        simp only [oddB, List.mem_cons, List.not_mem_nil, or_false] at hx
        rcases hx with rfl | rfl | rfl | rfl <;> exact ⟨by decide +kernel, by decide +kernel, by decide +kernel, by decide +kernel⟩
      refine (Sm.list (n := 13) (D := 0) (B := 0) (fun y hy => ?_) (by simp; omega)).mono
      rcases List.mem_append.mp hy with hy | hy
      · rcases List.mem_append.mp hy with hy | hy
        · exact hi y (List.mem_of_mem_take hy)
        · rw [List.mem_singleton.mp hy]; exact hbx
      · exact hi y (List.mem_of_mem_drop hy)
  · simp only [List.mem_cons, List.not_mem_nil, or_false] at hd
    rcases hd with rfl | rfl
    · exact (mul_sm n hn).mono
    · exact ⟨by decide +kernel, by decide +kernel, by decide +kernel, by decide +kernel⟩
def qfw (n : Int) : List PyData := [.list [.tuple [.str "stuck", .int n, .int 0]], .list [.tuple [.str "turns", .int 0, .int n, .int 1]], .list [.tuple [.str "stuck", .int 0, .int 1], .tuple [.str "other", .int 1, .int n]]]
def yg8 (n e : Int) : List PyData := [.list [.tuple [.str "both", .int n, .int 0, .str "or"]], .list [.tuple [.str "sets", .int 1, .int (n + e), .int 0, .int 0]]]
def chkH (n : Int) (d : PyData) : Bool := (qao d).isNone && (!((ya1 d).all fun c => decide (c < n)) && (d.showable && (decide (d.depth ≤ 3) && (d.leavesShort 40 && decide (d.bulk ≤ 60)))))
theorem chk_is {n : Int} {d : PyData} (h : chkH n d = true) : qao d = none ∧ (¬ ∀ c ∈ ya1 d, c < n) ∧ Sm 3 60 d := by
  unfold chkH at h
  simp only [Bool.and_eq_true] at h
  obtain ⟨h1, h2, h3, h4, h5, h6⟩ := h
  refine ⟨by simpa using h1, fun z => ?_, h3, of_decide_eq_true h4, h5, of_decide_eq_true h6⟩
  have : (ya1 d).all (fun c => decide (c < n)) = true := List.all_eq_true.mpr fun c hc => decide_eq_true (z c hc)
  rw [this] at h2
  cases h2
theorem qjo : ∀ n : Nat, n < 13 → 4 ≤ n → ∀ e : Nat, e < 10 → (qfw (n : Int) ++ yg8 (n : Int) (e : Int)).all (chkH (n : Int)) = true := by decide +kernel
theorem qj1 {n : Nat} {e : Int} (h1 : 4 ≤ n) (h2 : n ≤ 12) (e0 : 0 ≤ e) (e1 : e < 10) : ∀ d ∈ qfw (n : Int) ++ yg8 (n : Int) e, qao d = none ∧ (¬ ∀ c ∈ ya1 d, c < (n : Int)) ∧ Sm 3 60 d := by
  intro d hd
  have := qjo n (by omega) h1 e.toNat (by omega)
  rw [show ((e.toNat : Nat) : Int) = e by omega] at this
  exact chk_is (List.all_eq_true.mp this d hd)
def bad1 (hd : List PyData) : List PyData := [.none, .tuple hd, .list (hd ++ [.none]), .list [.tuple [.str "stuck", .int 0, .int 2]], .list [.tuple [.str "turns", .int 0, .int 0, .int 1]], .list (List.replicate 4 hd).flatten, .dict []]
def bad2 : List PyData := [.list [.tuple [.str "none", .int 0, .int 0]], .list [.str "stuck"], .list [.tuple []]]
theorem bad_in {ds : List PyData} {d : PyData} (hd : d ∈ ds) (hb : qgi d = false) : (qao (.list ds)).isSome = true := by
  show (if 3 < ds.length then some none else ((List.range ds.length).find? (yck ds)).map some).isSome = true
  split
  · rfl
  · obtain ⟨i, hi⟩ := List.getElem?_of_mem hd
    have hil := (List.getElem?_eq_some_iff.mp hi).1
    cases hf : (List.range ds.length).find? (yck ds) with
    | some j => rfl
    | none =>
      have := List.find?_range_eq_none.mp hf i hil
      unfold yck at this
      rw [List.getD_eq_getElem?_getD, hi] at this
      simp [hb] at this
theorem bads_bad {hd : List PyData} (h1 : 1 ≤ hd.length) : ∀ d ∈ bad1 hd ++ bad2, (qao d).isSome = true := by
  intro d hm
  simp only [bad1, bad2, List.cons_append, List.nil_append, List.mem_cons, List.not_mem_nil, or_false] at hm
  rcases hm with rfl | rfl | rfl | rfl | rfl | rfl | rfl | rfl | rfl | rfl
  · rfl
  · rfl
  · exact bad_in (d := .none) (by simp) rfl
  · decide +kernel
  · decide +kernel
  · show (if 3 < (List.replicate 4 hd).flatten.length then some none else _).isSome = true
    rw [if_pos (by rw [List.length_flatten, List.map_replicate, List.sum_replicate_nat]; omega)]
    rfl
  · rfl
  · decide +kernel
  · decide +kernel
  · decide +kernel
theorem bads_sm {hd : List PyData} (h3 : hd.length ≤ 3) (hs : ∀ x ∈ hd, Sm 1 100 x) : ∀ d ∈ bad1 hd ++ bad2, Sm 4 2000 d := by
  intro d hm
  simp only [bad1, bad2, List.cons_append, List.nil_append, List.mem_cons, List.not_mem_nil, or_false] at hm
  rcases hm with rfl | rfl | rfl | rfl | rfl | rfl | rfl | rfl | rfl | rfl
  · exact ⟨by decide +kernel, by decide +kernel, by decide +kernel, by decide +kernel⟩
  · exact (Sm.tuple (n := 3) hs h3).mono
  · exact (Sm.list (n := 4) (D := 1) (B := 100) (fun x hx => by
      rcases List.mem_append.mp hx with hx | hx
      · exact hs x hx
      · rw [List.mem_singleton.mp hx]; exact ⟨by decide +kernel, by decide +kernel, by decide +kernel, by decide +kernel⟩) (by simp; omega)).mono
  · exact ⟨by decide +kernel, by decide +kernel, by decide +kernel, by decide +kernel⟩
  · exact ⟨by decide +kernel, by decide +kernel, by decide +kernel, by decide +kernel⟩
  · exact (Sm.list (n := 12) (D := 1) (B := 100) (fun x hx => by
      obtain ⟨l, hl, hx⟩ := List.mem_flatten.mp hx
      rw [List.eq_of_mem_replicate hl] at hx
      exact hs x hx) (by rw [List.length_flatten, List.map_replicate, List.sum_replicate_nat]; omega)).mono
  · exact ⟨by decide +kernel, by decide +kernel, by decide +kernel, by decide +kernel⟩
  · exact ⟨by decide +kernel, by decide +kernel, by decide +kernel, by decide +kernel⟩
  · exact ⟨by decide +kernel, by decide +kernel, by decide +kernel, by decide +kernel⟩
  · exact ⟨by decide +kernel, by decide +kernel, by decide +kernel, by decide +kernel⟩
theorem hidp {H H' : Hp} {p : Addr} {v : V} {d : PyData} (hp : H p = none) (s : Same H H') (h : AtX H v d) : AtX (yas H' [p]) v d := h.same fun b o e => by
  rw [ybj (by intro z; rw [List.mem_singleton.mp z, hp] at e; cases e)]
  exact s _ _ e
theorem hidp1 {H H' : Hp} {p : Addr} {v : V} {d : PyData} (hp : H p = none) (s : Same H H') (h : At H v d) : At (yas H' [p]) v d := h.same fun b o e => by
  rw [ybj (by intro z; rw [List.mem_singleton.mp z, hp] at e; cases e)]
  exact s _ _ e
theorem qcv {H : Hp} {p : Addr} {o : HO} {v : V} {d : PyData} (h : AtX (yas H [p]) v d) : AtX (yas (upd H p o) [p]) v d := by
  rw [qgt (List.mem_singleton.mpr rfl)]
  exact h
theorem qer {te : TE} {σ : L2.St} {d : PyData} {H1 : Hp} {p : Addr} {xs : List V} {k : Int} {j i : Nat} {rest : TS} {KK : Ends} (h : LayX [p] te σ d H1) (hp : H1 p = some (.lst xs)) (hσ : σ[i]? = some (some (.ref p))) (hix : ixN xs.length k = some j) (kk : ∀ v H', Same H1 H' → AtX (yas H' [p]) v d → rest KK σ (upd H' p (.lst (xs.set j v)))) :
    tSeq (tAsg te (gSub (tVar i) (tC (.int k)) rSetL)) rest KK σ H1 :=
  h (fun b hb => by rw [List.mem_singleton.mp hb, hp]; intro z; cases z) H1 (Same.refl H1) _ fun v H' s a => ⟨_, hσ, p, xs, k, j, rfl, rfl, s _ _ hp, hix, kk v H' s a⟩
theorem ykh {L : List Addr} {σ : L2.St} {H : Hp} {i : Nat} {n : Int} {te : TE} {m : Int} (hσ : σ[i]? = some (some (.int n))) (he : ∀ H1, Same H H1 → ∀ Q : VK, Q (.int m) H1 → te σ H1 Q) : Lay L (tOp (rI0 fun i j => V.int (i + j)) (tVar i) te) σ (.int (n + m)) H := fun hL H1 s Q k => ⟨_, hσ, he H1 s _ ⟨_, _, rfl, rfl, k _ H1 (Same.refl H1) (.int _)⟩⟩
theorem lay_sub {L : List Addr} {σ : L2.St} {H : Hp} {i : Nat} {n m : Int} (hσ : σ[i]? = some (some (.int n))) : Lay L (tOp (rI0 fun i j => V.int (i - j)) (tVar i) (tC (.int m))) σ (.int (n - m)) H := fun hL H1 s Q k => ⟨_, hσ, _, _, rfl, rfl, k _ H1 (Same.refl H1) (.int _)⟩
theorem qh6 {te : TE} {σ : L2.St} {d : PyData} {H : Hp} {L : List Addr} {i : Nat} {rest : TS} {KK : Ends} (h : Lay L te σ d H) (hL : ∀ b ∈ L, H b ≠ none) (k : ∀ v H', Same H H' → At (yas H' L) v d → rest KK (σ.set i (some v)) H') : tSeq (tAsg te (yft i)) rest KK σ H := h hL H (Same.refl H) _ k
theorem layl_set {te : TE} {σ : L2.St} {ds : List PyData} {H : Hp} {L : List Addr} {i : Nat} {rest : TS} {KK : Ends} (h : LayL L te σ ds H) (hL : ∀ b ∈ L, H b ≠ none) (k : ∀ a vs H', Same H H' → yas H' L a = some (.lst vs) → AllX (yas H' L) vs ds → rest KK (σ.set i (some (.ref a))) H') : tSeq (tAsg te (yft i)) rest KK σ H := h hL H (Same.refl H) _ k
theorem lay_init {K : PySem.W.Frag} {te : TE} {σ : L2.St} {ds : List PyData} {H : Hp} {L : List Addr} (h1 : Lay L te σ (.list ds) H) : Lay L (tSl (rSlL K) te yga (tPart (tUn (rU fun i => V.int (-i)) (tC (.int 1))))) σ (.list ds.dropLast) H := fun hL H1 s Q k =>
  h1 hL H1 s _ fun v H2 s2 a2 => ⟨1, rfl, -1, rfl, by
    obtain ⟨a, vs, rfl, ha, hw⟩ := a2.lstEq
    refine ⟨a, vs, rfl, SqL.of (qa3 _ _ _ _ ha), fun p hp => k _ _ (s2.upd hp) ?_⟩
    rw [cut_init]
    have : AtAll (yas H2 L) vs.dropLast ds.dropLast := by
      rw [List.dropLast_eq_take, List.dropLast_eq_take, hw.length]
      exact hw.take _
    exact qeb hL (s.trans s2) hp this⟩
theorem mulok : ∀ n : Nat, n < 13 → MulOk "0" (n : Int) := by unfold MulOk; decide +kernel
section
variable {P : Program} {w : World} {K : PySem.W.Frag} {mg : Str → Option Value} {base : Heap} {C : Addr}
def sg_odd : Sp := fun vs H Q _ => ∃ (D L Cc : Addr) (n : Nat) (ds : List Int) (us : List V) (hs : List Hm) (S cs : List Int), vs = [.ref D, .int n, .ref L, .ref Cc] ∧ H D = some (.lst (ds.map V.int)) ∧ Dig ds [9, 4, 10, 4, 10, 8, 10, 2, 2, 2, 2, 2, 2, 2, 2, 2, 2, 2, 2] ∧ 4 ≤ n ∧ n ≤ 12 ∧
  H L = some (.lst us) ∧ HsV H us hs ∧ okHs hs S ∧ 1 ≤ hs.length ∧ InR hs n ∧ H Cc = some (.lst (cs.map V.int)) ∧ bits cs ∧ cs.length = n ∧
  ∀ r p vh vc vz dh dc dz due H', Same H H' → H' r = some (.tup [.ref p, .str due]) → H' p = some (.lst [vh, vc, vz]) → AtX H' vh dh → AtX H' vc dc → AtX H' vz dz → Sm 4 2000 dh → Sm 4 2000 dc → Sm 4 2000 dz → qfu dz dh dc = due → Q (.ref r) H'
abbrev yb6 : Stmt := top 65
theorem yfl : FnScope ["_law_d", "_law_size", "_law_harms_here", "_law_contents", "_law_odd_here", "_law_due", "_law_at", "_law_some", "_law_bits"] ["_law_d", "_law_size", "_law_harms_here", "_law_contents"] (yab yb6) := ⟨rfl, rfl, rfl, by decide +kernel, rfl, by decide +kernel, by decide +kernel⟩
/- slots: 0 _law_d, 1 _law_size, 2 _law_harms_here, 3 _law_contents, 4 _law_odd_here, 5 _law_due, 6 _law_at, 7 _law_some, 8 _law_bits; cells: _law_at, _law_contents -/
theorem og_odd (B : Bl mg) (F : FnAt K mg "_law_odd" yb6 ["_law_d", "_law_size", "_law_harms_here", "_law_contents"]) : Has P w K mg base 1 "_law_odd" ["_law_d", "_law_size", "_law_harms_here", "_law_contents"] sg_odd := by
  refine Has.ofQ F yfl (fun vs H Q E h => ?_) (fun f cdv A outer s H vs Q E hr h => ?_)
  · obtain ⟨D, L, Cc, n, ds, us, hs, S, cs, rfl, _⟩ := h
    rfl
  · obtain ⟨D, L, Cc, n, ds, us, hs, S, cs, rfl, hD, hdig, n4, n12, hL, hv, ok, h1, hi, hC, hbt, hcl, q⟩ := h
    obtain ⟨hLat, hLb, hLc⟩ := hs_good hL hv ok
    have hCat : At H (.ref Cc) (ybv cs) := .lst hC (yfc cs)
    obtain ⟨d1, g1, m1, n1⟩ := hdig.get (i := 1) (z := 4) rfl
    obtain ⟨d2, g2, m2, n2⟩ := hdig.get (i := 2) (z := 10) rfl
    obtain ⟨d3, g3, m3, n3⟩ := hdig.get (i := 3) (z := 4) rfl
    obtain ⟨d4, g4, m4, n4'⟩ := hdig.get (i := 4) (z := 10) rfl
    obtain ⟨d5, g5, m5, n5⟩ := hdig.get (i := 5) (z := 8) rfl
    obtain ⟨d6, g6, m6, n6⟩ := hdig.get (i := 6) (z := 10) rfl
    have goodOk : qcd (.int n) (.list (hs.map hmD)) (ybv cs) = true := by
      have e1 : yfu (.int (n : Int)) = true := decide_eq_true ⟨by omega, by omega⟩
      have e2 : (∀ c ∈ ya1 (.list (hs.map hmD)), c < (n : Int)) := by
        rw [hLc]
        intro c hc
        obtain ⟨h, hh, hc⟩ := List.mem_flatMap.mp hc
        exact (hi h hh c hc).2
      have e3 : qdp (n : Int) (ybv cs) = true := by
        show (decide (((cs.map PyData.int).length : Int) = n) && ((cs.map PyData.int).map bitD).all id) = true
        rw [decide_eq_true (by rw [List.length_map]; omega), Bool.true_and, List.all_eq_true]
        intro b hb
        obtain ⟨x, hx, rfl⟩ := List.mem_map.mp hb
        obtain ⟨c, hc, rfl⟩ := List.mem_map.mp hx
        obtain ⟨b, rfl⟩ := hbt c hc
        cases b <;> decide
      unfold qcd
      rw [e1, Bool.true_and]
      show (decide (∀ c ∈ ya1 (.list (hs.map hmD)), c < (n : Int)) && qdp (n : Int) (ybv cs)) = true
      rw [decide_eq_true e2, e3]
      rfl
    have hidN : ∀ {H2 : Hp} {p : Addr}, H2 p ≠ none → ∀ b ∈ [p], H2 b ≠ none := fun {H2 p} h b hb => by rw [List.mem_singleton.mp hb]; exact h
    have sc := yfl
    refine ⟨_, (yan rfl (qad (yar (i := 4) sc.nd rfl (Or.inl rfl) (qav (qak (qab (pv 2)) (qak (qab (pv 3)) (qak (qab (pv 1)) yad)))))
      (qad (yar (i := 5) sc.nd rfl (Or.inl rfl) (qab yal))
      (yhg (ybc (qa6 ybk (qbe qal (qab (pv 0)) (qab qac) (fun _ _ => rfl)) (qab qac) (yai _))
        (qad (ygn (qbe qal (qav (yam (qab qac) (yam (qab qac) (yam (qab yed) (yam (qab qb3) (yam (qab yal) (ye9 (qab (qhu qe5 qac)) (qd5 (ybq yb8 (qab (pv 1)) (qab qac)) (qd5 (ybq qi2 (qab (pv 1)) (qab qac)) (qd5 (ybq qgz (qab qac) (qab qac)) (yee (qav (qak (qab (pv 1)) yad)) yad))))))))))) (qbe qal (qab (pv 0)) (qab qac) (fun _ _ => rfl)) (fun _ _ => rfl)) (qfv (pv 4) qac qdf))
        (yaf (yar (i := 5) sc.nd rfl (Or.inl rfl) (qab yal))))
        (yaf (ybc (qa6 ybk (qbe qal (qab (pv 0)) (qab qac) (fun _ _ => rfl)) (qab qac) (yai _))
          (qad (yar (i := 6) sc.nd rfl (Or.inr rfl) (ybq qc3 (qbe qal (qab (pv 0)) (qab qac) (fun _ _ => rfl)) (qab (pv 1))))
          (qad (qd3 (qjg (i := 7) rfl sc.nd rfl (Or.inl rfl) rfl (qbl rfl) (M := ["_law_one", "_law_contents", "_law_at"]) (ix := [none, some 3, some 6]) (qb5 (yb2 (qgm qac (qgm yed (qgm qb3 (qaa (qhu qe5 qac) yac)))))) (fun _ _ _ _ => (qan (i := 0) (show List.Nodup (["_law_one", "_law_contents", "_law_at"] : List Str) by decide +kernel) rfl (Or.inl rfl))) (fun _ _ _ _ => qd8) (fun _ _ _ _ => (qbi ycc (qbi ycc (qbs (qf8 (K := K) rfl) (pv 1) qci (ybt (pv 2))) (yb2 (qaa (pv 0) yac))) (qbs (qf8 (K := K) rfl) (pv 1) (ybt (qbi yb8 (pv 2) qac)) qci)))))
          (qad (yar (i := 8) sc.nd rfl (Or.inl rfl) (qav (qe0 (qe_sl yd7 (qab (pv 3)) qci (ybt (qhu qe5 qac))) (qd5 (ybq ycc (qab (pv 3)) (qav (yam (qab qac) yad))) (yiy (qbk yd4 rfl (B.of rfl) boot_tuple (qak (qab (pv 3)) yad)) (yam (qab qb3) yad))))))
          (qad (ygn (qbe qal (ybq ycc (ybq ycc (qab (pv 8)) (qab (pv 7))) (qav (qd5 (ybq qkj (qab yal) (qab (pv 1))) (ye9 (qab yif) yad)))) (qbe qal (qab (pv 0)) (qab qac) (fun _ _ => rfl)) (fun _ _ => rfl)) (qfv (pv 4) qac qdf))
          (yaf (yar (i := 5) sc.nd rfl (Or.inl rfl) (qab yal)))))))
          qa1)))
      (yhg (ybc (qa6 ybk (qbe qal (qab (pv 0)) (qab qac) (fun _ _ => rfl)) (qab qac) (yai _))
        (qad (yar (i := 7) sc.nd rfl (Or.inl rfl) (qav (yee (qav (yd5 (ybh (yam (qab yal) (qak (qab (pv 1)) (yam (qab qac) yad)))) yad)) (yee (qav (yd5 (ybh (yam (qab yal) (yam (qab qac) (qak (qab (pv 1)) (yam (qab qac) yad))))) yad)) (yee (qav (yd5 (ybh (yam (qab yal) (yam (qab qac) (yam (qab qac) yad)))) (yd5 (ybh (yam (qab yal) (yam (qab qac) (qak (qab (pv 1)) yad)))) yad))) yad)))))
        (qad (ygn (qbe qal (ybq ycc (qab (pv 7)) (qav (yee (qav (yd5 (ybh (yam (qab yal) (qak (qab (pv 1)) (yam (qab qac) (yam (qab yal) yad))))) yad)) (yee (qav (yd5 (ybh (yam (qab yal) (yam (qab qac) (qd5 (ybq yb8 (qab (pv 1)) (qbe qal (qab (pv 0)) (qab qac) (fun _ _ => rfl))) (yam (qab qac) (yam (qab qac) yad)))))) yad)) yad)))) (ybq qc3 (qbe qal (qab (pv 0)) (qab qac) (fun _ _ => rfl)) (qab qac)) (fun _ _ => rfl)) (qfv (pv 4) qac qdf))
        (yaf (yar (i := 5) sc.nd rfl (Or.inl rfl) (qab yal)))))
        qa1)
      (yhg (ybc (qa6 ybk (qbe qal (qab (pv 0)) (qab qac) (fun _ _ => rfl)) (qab qac) (yai _))
        (qad (yar (i := 7) sc.nd rfl (Or.inl rfl) (qav (yam (qab qb3) (yiy (qbk yd4 rfl (B.of rfl) boot_tuple (qak (qab (pv 2)) yad)) (qd5 (ybq ycc (qab (pv 2)) (qav (yam (qab qb3) yad))) (yee (qav (yd5 (ybh (yam (qab yal) (yam (qab qac) (yam (qab qac) yad)))) yad)) (yee (qav (yd5 (ybh (yam (qab yal) (yam (qab qac) (yam (qab qac) (yam (qab qac) yad))))) yad)) (qd5 (ybq yjk (qab (pv 2)) (qab qac)) (ye9 (qab yif) yad)))))))))
        (qad (ygn (qbe qal (ybq ycc (qab (pv 7)) (qav (yee (qav (yd5 (ybh (yam (qab yal) (yam (qab qac) (yam (qab qac) yad)))) yad)) (yee (qav (yam (qab yal) yad)) (yee (qav (yd5 (ybh yad) yad)) yad))))) (qbe qal (qab (pv 0)) (qab qac) (fun _ _ => rfl)) (fun _ _ => rfl)) (qfv (pv 4) qac qdf))
        (yaf (yar (i := 5) sc.nd rfl (Or.inl rfl) (qab yal)))))
        qa1)
      (yaf (qay (ybh (qak (qab (pv 4)) (qak (qab (pv 5)) yad))))))))))), ?_⟩
    refine ⟨_, rfl, _, rfl, _, rfl, (by show 3 ≤ sizeLine; decide), fun p hp => ?_⟩
    have s1 : Same H (upd H p (.lst [.ref L, .ref Cc, .int n])) := (Same.refl H).upd hp
    have e1 : upd H p (.lst [.ref L, .ref Cc, .int n]) p = some (.lst [.ref L, .ref Cc, .int n]) := yaa
    revert s1 e1
    generalize upd H p (.lst [.ref L, .ref Cc, .int n]) = H1
    intro s1 e1
    refine ⟨fun σ' HX => ∃ vc vz dc dz due, ∃ q6 q7 q8 : Option V, σ' = [some (.ref D), some (.int n), some (.ref L), some (.ref Cc), some (.ref p), some (.str due), q6, q7, q8] ∧ Same H HX ∧ HX p = some (.lst [.ref L, vc, vz]) ∧ AtX (yas HX [p]) vc dc ∧ AtX (yas HX [p]) vz dz ∧ Sm 4 2000 dc ∧ Sm 4 2000 dz ∧
      ((due = "made" ∧ dz = .int n ∧ dc = ybv cs) ∨ (due = "memory" ∧ ∀ dh, qcd dz dh dc = false)), ?_, ?_⟩
    · refine ⟨_, rfl, D, _, _, _, rfl, rfl, SqL.of (s1 _ _ hD), qaf 1 (qbd g1), rfl, _, rfl, ?_⟩
      by_cases h1z : d1 = 0
      · refine iteB (decide_eq_true (by rw [h1z])) ?_
        obtain ⟨dd, hdd⟩ : ∃ dd, (qfg n)[d2.toNat]? = some dd := ⟨_, List.getElem?_eq_getElem (by show d2.toNat < 10; omega)⟩
        refine qer (p := p) (xs := [.ref L, .ref Cc, .int n]) (j := 2) (d := dd) ?_ e1 rfl rfl fun v H2 s2 a2 => ?_
        · refine qgb (i := d2) (ds := qfg n) (ye7 ?_) (fun H2 s2 Q2 k2 => ⟨_, rfl, D, _, _, _, rfl, rfl, SqL.of (s2 _ _ (s1 _ _ hD)), qaf 2 (qbd g2), k2⟩) m2 (by show d2 < (10 : Int); omega) hdd
          unfold qfg
          have i1 : At (yas H1 [p]) (.int (n : Nat)) (.int (n : Nat)) := .int _
          repeat' (first | exact qcj | exact qfn | exact yc3 | exact ydq | exact qdl | exact qcc | refine yba ?_ ?_ | refine ydl ?_ | refine qb8 ?_ | exact ybd rfl i1)
          · exact ykh rfl fun H2 s2 Q2 k2 => k2
          · exact lay_sub rfl
          · exact qhm ⟨by decide, by decide, by decide⟩
        · refine ⟨.ref Cc, v, ybv cs, dd, "memory", _, _, _, rfl, (s1.trans s2).at hp, yaa, qcv (hidp hp (s1.trans s2) (.inl hCat)), qcv a2, ?_, (sizes_sm n4 n12 dd (List.mem_of_getElem? hdd)).mono, .inr ⟨rfl, ykg hcl dd (List.mem_of_getElem? hdd)⟩⟩
          exact (Sm.list (n := 13) (D := 0) (B := 0) (qhn hbt) (by simp; omega)).mono
      · refine iteN (decide_eq_false (by intro z; exact h1z (V.int.inj z))) ?_
        refine ⟨_, rfl, D, _, _, _, rfl, rfl, SqL.of (s1 _ _ hD), qaf 5 (qbd g5), rfl, _, rfl, ?_⟩
        by_cases h5z : d5 = 0
        · refine iteB (decide_eq_true (by rw [h5z])) ?_
          refine ⟨_, rfl, D, _, _, _, rfl, rfl, SqL.of (s1 _ _ hD), qaf 4 (qbd g4), _, rfl, _, _, rfl, rfl, by omega, ?_⟩
          obtain ⟨at', hat', hatl⟩ : ∃ k : Nat, d4 % (n : Int) = (k : Int) ∧ k < n := by
            have h1 := Int.emod_nonneg d4 (b := (n : Int)) (by omega)
            have h2 := Int.emod_lt_of_pos d4 (b := (n : Int)) (by omega)
            exact ⟨(d4 % (n : Int)).toNat, by omega, by omega⟩
          show yft 6 (V.int (d4 % (n : Int))) _ _ _
          rw [hat']
          refine gn ?_
          dsimp only
          have hC1 : At (yas H1 [p]) (.ref Cc) (ybv cs) := hidp1 hp s1 hCat
          refine ⟨1, rfl, (by show 4 ≤ sizeLine; decide), fun q hq => ⟨q, rfl, ⟨_, SqL.of yaa⟩, fun DD hD2 => yds (n := 4) (fun i H' => Same H1 H' ∧ H' q = some (.lst [.int 2, .bl true, .non, .int (-1)]) ∧ q ≠ DD ∧ DD ≠ p ∧ H1 DD = none ∧ Bld [p] H' DD ((oddB.take i).map fun x => .list ((cs.map PyData.int).take at' ++ [x] ++ (cs.map PyData.int).drop (at' + 1)))) ⟨((Same.refl H1).upd hq).trans ((Same.refl _).upd hD2), by rw [qag (fun z => by rw [← z, yaa] at hD2; cases hD2)]; exact yaa, (fun z => by rw [← z, yaa] at hD2; cases hD2), (fun z => by subst z; have := ((Same.refl H1).upd (o := .lst [.int 2, .bl true, .non, .int (-1)]) hq) _ _ e1; rw [this] at hD2; cases hD2), Same.free ((Same.refl H1).upd hq) hD2, Bld.new⟩ ?_ ?_⟩⟩
          rotate_left
          · rintro i H3 hi ⟨s3, hq3, nqD, nDp, hDn, b3⟩
            refine ⟨⟨_, _, SqL.of hq3, List.getElem?_eq_getElem hi⟩, ?_⟩
            rintro x H4 ⟨rfl, hx⟩
            have hw6 : AtAll (yas H4 [DD, p]) [.int 2, .bl true, .non, .int (-1)] oddB := .cons (.int _) (.cons (.bl _) (.cons .non (.cons (.int _) .nil)))
            obtain ⟨dx, hdx, hax⟩ := hw6.get (hx _ (SqL.of hq3))
            refine ⟨qbc.set (qbc.refl _) rfl, yes ?_⟩
            obtain ⟨us, e3, hus⟩ := id b3
            have hul := b3.len e3
            rw [List.length_map, List.length_take] at hul
            have hC3 : At (yas H4 [DD, p]) (.ref Cc) (ybv cs) := hCat.same fun b o e => by
              rw [ybj (by
                intro z
                rcases List.mem_cons.mp z with z | z
                · rw [z, s1.free hDn] at e; cases e
                · rw [List.mem_singleton.mp z, hp] at e; cases e)]
              exact (s1.trans s3) _ _ e
            refine lay_go (L := [DD, p]) (d := .list ((cs.map PyData.int).take at' ++ [dx] ++ (cs.map PyData.int).drop (at' + 1))) ?_ (fun b hb => by
              rcases List.mem_cons.mp hb with z | z
              · rw [z, e3]; intro z; cases z
              · rw [List.mem_singleton.mp z, s3 _ _ e1]; intro z; cases z) fun v4 H5 s4 a4 => ?_
            · refine qe6 (qe6 (lay_take (ybd rfl hC3) (lay_nv rfl)) (qb8 (yba (ybd rfl hax) qcc)) ?_) (lay_drop (ybd rfl hC3) (lay_ns rfl)) ?_
              · simp; omega
              · simp; omega
            · refine ⟨us, s4 _ _ e3, qc2 (by omega), (s3.trans s4).at hDn, by rw [qag nqD]; exact s4 _ _ hq3, nqD, nDp, hDn, ?_⟩
              have := (b3.grow s4).push (s4 _ _ e3) a4
              rw [List.take_add_one, hdx, List.map_append]
              exact this
          · rintro H3 ⟨s3, hq3, nqD, nDp, hDn, b3⟩
            refine ⟨⟨_, SqL.of hq3, Nat.le_refl _⟩, ?_⟩
            have a3 := b3.at (by simp [nDp])
            rw [show oddB.take 4 = oddB from rfl] at a3
            have s13 := s1.trans s3
            have hC3 : At (yas H3 [p]) (.ref Cc) (ybv cs) := hidp1 hp s13 hCat
            dsimp only
            refine qh6 (L := [p]) (d := .list [.list (cs.map PyData.int).dropLast, .list (cs.map PyData.int ++ [.int 0]), .tuple (cs.map PyData.int), .none]) ?_ (hidN (by rw [s3 _ _ e1]; intro z; cases z)) fun x4 H4 s4 a4 => ?_
            · refine qb8 (yba (lay_init (ybd rfl hC3)) (yba (qe6 (ybd rfl hC3) (qb8 (yba yc3 qcc)) (by simp; omega)) (yba (ygm (ybd rfl hC3)) (yba qcj qcc))))
            have s34 := s3.trans s4
            obtain ⟨dd, hdd⟩ : ∃ dd, (qiq (cs.map PyData.int) at' n)[d6.toNat]? = some dd := ⟨_, List.getElem?_eq_getElem (by show d6.toNat < 10; omega)⟩
            refine qer (p := p) (xs := [.ref L, .ref Cc, .int n]) (j := 1) (d := dd) ?_ (s34 _ _ e1) rfl rfl fun v H5 s5 a5 => ?_
            · refine qgb (i := d6) (ds := qiq (cs.map PyData.int) at' n) (ygc (ygc (ye7 (ybd rfl a4)) (ye7 (ybd rfl (a3.same (yaq s4 [p])))) (Nat.le_of_ble_eq_true rfl)) (yh4 (ybg (qdo ?_) (ybg yg0 qg4))) (Nat.le_of_ble_eq_true rfl)) (fun H2 s2 Q2 k2 => ⟨_, rfl, D, _, _, _, rfl, rfl, SqL.of ((s13.trans (s4.trans s2)) _ _ hD), qaf 6 (qbd g6), k2⟩) m6 (by show d6 < (10 : Int); omega) hdd
              exact fun hL H7 s7 Q7 k7 => ⟨_, rfl, _, _, rfl, rfl, mulok n (by omega), k7 _ H7 (Same.refl H7) (.str _)⟩
            · have s15 := s1.trans (s34.trans s5)
              have hdm := List.mem_of_getElem? hdd
              refine ⟨v, .int n, dd, .int n, "memory", _, _, _, rfl, s15.at hp, yaa, qcv a5, .inl (.int _), (cont_sm hcl n12 hbt dd hdm).mono, (qei ⟨by omega, by omega⟩).mono, .inr ⟨rfl, fun dh => qit (cont_bad (by rw [List.length_map]; exact hcl) (by omega) hatl dd hdm)⟩⟩
        · refine iteN (decide_eq_false (by intro z; exact h5z (V.int.inj z))) ?_
          exact ⟨.ref Cc, .int n, ybv cs, .int n, "made", _, _, _, rfl, s1, e1, hidp hp s1 (.inl hCat), .inl (.int _), (Sm.list (n := 13) (D := 0) (B := 0) (qhn hbt) (by simp; omega)).mono, (qei ⟨by omega, by omega⟩).mono, .inl ⟨rfl, rfl, rfl⟩⟩
    · rintro σ1 HX ⟨vc, vz, dc, dz, due, q6, q7, q8, rfl, sX, eX, aC, aZ, smC, smZ, hor⟩
      have hLX : At (yas HX [p]) (.ref L) (.list (hs.map hmD)) := hidp1 hp sX hLat
      have smL : Sm 4 2000 (.list (hs.map hmD)) := (hs_sm ok).mono
      refine ⟨fun σ' HY => ∃ vh vc vz dh dc dz due, ∃ q6 q7 q8 : Option V, σ' = [some (.ref D), some (.int n), some (.ref L), some (.ref Cc), some (.ref p), some (.str due), q6, q7, q8] ∧ Same H HY ∧ HY p = some (.lst [vh, vc, vz]) ∧ AtX (yas HY [p]) vh dh ∧ AtX (yas HY [p]) vc dc ∧ AtX (yas HY [p]) vz dz ∧ Sm 4 2000 dh ∧ Sm 4 2000 dc ∧ Sm 4 2000 dz ∧ qfu dz dh dc = due, ?_, ?_⟩
      · refine ⟨_, rfl, D, _, _, _, rfl, rfl, SqL.of (sX _ _ hD), qaf 5 (qbd g5), rfl, _, rfl, ?_⟩
        by_cases h5o : d5 = 1
        · refine iteB (decide_eq_true (by rw [h5o])) ?_
          have i1 : At (yas HX [p]) (.int (n : Nat)) (.int (n : Nat)) := .int _
          refine qh6 (L := [p]) (d := .list (qfw n)) ?_ (hidN (by rw [eX]; intro z; cases z)) fun x4 H4 s4 a4 => ?_
          · unfold qfw
            repeat' (first | exact qcj | exact qfn | exact yc3 | exact ydq | exact qdl | exact qcc | refine yba ?_ ?_ | refine ydl ?_ | refine qb8 ?_ | exact ybd rfl i1)
          have i4 : At (yas H4 [p]) (.int (n : Nat)) (.int (n : Nat)) := .int _
          have sX4 := sX.trans s4
          obtain ⟨j, hj, hj5⟩ : ∃ j : Nat, d6 % 5 = (j : Int) ∧ j < 5 := ⟨(d6 % 5).toNat, by omega, by omega⟩
          obtain ⟨dd, hdd⟩ : ∃ dd, (qfw n ++ yg8 n d2)[((j : Int)).toNat]? = some dd := ⟨_, List.getElem?_eq_getElem (by show ((j : Int)).toNat < 5; omega)⟩
          have hdm := List.mem_of_getElem? hdd
          refine qer (p := p) (xs := [.ref L, vc, vz]) (j := 0) (d := dd) ?_ (s4 _ _ eX) rfl rfl fun v H5 s5 a5 => ?_
          · refine qgb (i := (j : Int)) (ds := qfw n ++ yg8 n d2) (ye7 (qe6 (ybd rfl a4) ?_ (Nat.le_of_ble_eq_true rfl))) (fun H2 s2 Q2 k2 => ⟨_, rfl, D, _, _, _, rfl, rfl, SqL.of ((sX4.trans s2) _ _ hD), qaf 6 (qbd g6), _, _, rfl, rfl, (by show (0 : Int) < 5; decide), by show Q2 (V.int (d6 % 5)) H2; rw [hj]; exact k2⟩) (by omega) (by show (j : Int) < (5 : Int); omega) hdd
            unfold yg8
            repeat' (first | exact qcj | exact qfn | exact yc3 | exact ydq | exact qdl | exact qcc | refine yba ?_ ?_ | refine ydl ?_ | refine qb8 ?_ | exact ybd rfl i4)
            exact ykh rfl fun H2 s2 Q2 k2 => ⟨_, rfl, D, _, _, _, rfl, rfl, SqL.of ((sX4.trans s2) _ _ hD), qaf 2 (qbd g2), k2⟩
          · obtain ⟨hb1, hb2, hb3⟩ := qj1 n4 n12 m2 n2 dd hdm
            have s45 := s4.trans s5
            refine ⟨v, vc, vz, dd, dc, dz, "memory", _, _, _, rfl, (sX.trans s45).at hp, yaa, qcv a5, qcv (aC.same (yaq s45 [p])), qcv (aZ.same (yaq s45 [p])), hb3.mono, smC, smZ, ?_⟩
            have hno : qcd dz dd dc = false := by
              rcases hor with ⟨_, rfl, _⟩ | ⟨_, h⟩
              · unfold qcd
                rw [show decide (∀ c ∈ ya1 dd, c < intD (.int (n : Int))) = false from decide_eq_false hb2]
                simp
              · exact h dd
            unfold qfu
            rw [hb1, hno]
            rfl
        · refine iteN (decide_eq_false (by intro z; exact h5o (V.int.inj z))) ?_
          refine ⟨.ref L, vc, vz, .list (hs.map hmD), dc, dz, due, _, _, _, rfl, sX, eX, .inl hLX, aC, aZ, smL, smC, smZ, ?_⟩
          unfold qfu
          rw [hLb]
          rcases hor with ⟨rfl, rfl, rfl⟩ | ⟨rfl, h⟩
          · rw [goodOk]; rfl
          · rw [h]; rfl
      · clear hor aC aZ smC smZ hLX sX eX vc vz dc dz due q6 q7 q8
        rintro σ1 HY ⟨vh, vc, vz, dh, dc, dz, due, q6, q7, q8, rfl, sX, eX, aH, aC, aZ, smH, smC, smZ, hdue⟩
        have hLX : At (yas HY [p]) (.ref L) (.list (hs.map hmD)) := hidp1 hp sX hLat
        refine ⟨fun σ' HY => ∃ vh vc vz dh dc dz due, ∃ q6 q7 q8 : Option V, σ' = [some (.ref D), some (.int n), some (.ref L), some (.ref Cc), some (.ref p), some (.str due), q6, q7, q8] ∧ Same H HY ∧ HY p = some (.lst [vh, vc, vz]) ∧ AtX (yas HY [p]) vh dh ∧ AtX (yas HY [p]) vc dc ∧ AtX (yas HY [p]) vz dz ∧ Sm 4 2000 dh ∧ Sm 4 2000 dc ∧ Sm 4 2000 dz ∧ qfu dz dh dc = due, ?_, ?_⟩
        · refine ⟨_, rfl, D, _, _, _, rfl, rfl, SqL.of (sX _ _ hD), qaf 3 (qbd g3), rfl, _, rfl, ?_⟩
          by_cases h3z : d3 = 0
          · refine iteB (decide_eq_true (by rw [h3z])) ?_
            have hh3 : (hs.map hmD).length ≤ 3 := by rw [List.length_map]; exact ok.len
            refine layl_set (L := [p]) (ds := bad1 (hs.map hmD)) ?_ (hidN (by rw [eX]; intro z; cases z)) fun x4 w4 H4 s4 e4 a4 => ?_
            · refine yh4 (ybg (qdo qcj) (ybg (qdo (ygm (ybd rfl hLX))) (ybg (qdo (qe6 (ybd rfl hLX) (qb8 (yba qcj qcc)) (by simp only [List.length_cons, List.length_nil]; omega))) (ybg (qdo ?_) (ybg (qdo ?_) (ybg (qdo (lay_rep (n := 4) (ybd rfl hLX) (by decide) (by omega))) (ybg yg0 qg4)))))))
              all_goals repeat' (first | exact qcj | exact qfn | exact yc3 | exact ydq | exact qdl | exact qcc | refine yba ?_ ?_ | refine ydl ?_ | refine qb8 ?_)
            have sX4 := sX.trans s4
            obtain ⟨dd, hdd⟩ : ∃ dd, (bad1 (hs.map hmD) ++ bad2)[d4.toNat]? = some dd := ⟨_, List.getElem?_eq_getElem (by show d4.toNat < 10; omega)⟩
            have hdm := List.mem_of_getElem? hdd
            refine qer (p := p) (xs := [vh, vc, vz]) (j := 0) (d := dd) ?_ (s4 _ _ eX) rfl rfl fun v H5 s5 a5 => ?_
            · refine qgb (i := d4) (ds := bad1 (hs.map hmD) ++ bad2) (ygc (layl_var rfl e4 a4) (ye7 ?_) (Nat.le_of_ble_eq_true rfl)) (fun H2 s2 Q2 k2 => ⟨_, rfl, D, _, _, _, rfl, rfl, SqL.of ((sX4.trans s2) _ _ hD), qaf 4 (qbd g4), k2⟩) m4 (by show d4 < (10 : Int); omega) hdd
              unfold bad2
              repeat' (first | exact qcj | exact qfn | exact yc3 | exact ydq | exact qdl | exact qcc | refine yba ?_ ?_ | refine ydl ?_ | refine qb8 ?_)
            · have s45 := s4.trans s5
              refine ⟨v, vc, vz, dd, dc, dz, "harms", _, _, _, rfl, (sX.trans s45).at hp, yaa, qcv a5, qcv (aC.same (yaq s45 [p])), qcv (aZ.same (yaq s45 [p])), bads_sm hh3 (fun x hx => by
                obtain ⟨h, hh, rfl⟩ := List.mem_map.mp hx
                obtain ⟨ns, og⟩ := ok.ok h hh
                exact (hm_sm og).mono) dd hdm, smC, smZ, ?_⟩
              have hb := bads_bad (by rw [List.length_map]; exact h1) dd hdm
              unfold qfu
              cases hx : qao dd with
              | none => rw [hx] at hb; cases hb
              | some z => rfl
          · refine iteN (decide_eq_false (by intro z; exact h3z (V.int.inj z))) ?_
            exact ⟨vh, vc, vz, dh, dc, dz, due, _, _, _, rfl, sX, eX, aH, aC, aZ, smH, smC, smZ, hdue⟩
        · rintro σ1 HZ ⟨vh, vc, vz, dh, dc, dz, due, q6, q7, q8, rfl, sZ, eZ, aH, aC, aZ, smH, smC, smZ, hdue⟩
          refine ⟨_, rfl, _, rfl, (by show 2 ≤ sizeLine; decide), fun r hr => ?_⟩
          have sr : Same HZ (upd HZ r (.tup [.ref p, .str due])) := (Same.refl HZ).upd hr
          have out : ∀ {v d}, AtX (yas HZ [p]) v d → AtX (upd HZ r (.tup [.ref p, .str due])) v d := fun {v d} h => (h.same (qa3 _ _)).same sr
          exact q r p vh vc vz dh dc dz due _ (sZ.trans sr) yaa (sr _ _ eZ) (out aH) (out aC) (out aZ) smH smC smZ hdue
end
theorem sh_le {a b c : PyData} (h1 : Sm 4 2000 a) (h2 : Sm 4 2000 b) (h3 : Sm 4 2000 c) : (PyData.list [a, b, c]).showable = true ∧ (PyData.list [a, b, c]).depth ≤ 60 ∧ (PyData.list [a, b, c]).shown.length ≤ sizeLine :=
  (Sm.list (n := 3) (D := 4) (B := 2000) (xs := [a, b, c]) (fun x hx => by
    simp only [List.mem_cons, List.not_mem_nil, or_false] at hx
    rcases hx with rfl | rfl | rfl
    · exact h1
    · exact h2
    · exact h3) (by simp)).shown
section
variable {P : Program} {w : World} {K : PySem.W.Frag} {mg : Str → Option Value} {base : Heap} {C : Addr}
def qh5 (K : PySem.W.Frag) : Sp := fun vs H Q _ => ∃ (a : Addr) (ns : List Int), vs = [.ref a] ∧ SqL K H a (ns.map V.int) ∧ ns.length ≤ 63 ∧ ∀ H', Q (.bl true) H'
abbrev ygh : Stmt := top 67
theorem sc_law : FnScope ["_law_script", "_law_turn", "_law_cell", "_law_d", "_law_size", "_law_harms_here", "_law_contents", "_law_odd_here", "_law_due", "_law_kept"] ["_law_script"] (yab ygh) := ⟨rfl, rfl, rfl, by decide +kernel, rfl, by decide +kernel, by decide +kernel⟩
/- slots: 0 _law_script, 1 _law_turn, 2 _law_cell, 3 _law_d, 4 _law_size, 5 _law_harms_here, 6 _law_contents, 7 _law_odd_here, 8 _law_due, 9 _law_kept -/
theorem ok_law (B : Bl mg) (ycp : Has P w K mg base 1 "_law_digits" ["_law_cell", "_law_turn", "_law_sizes"] ye0) (qg6 : Has P w K mg base 2 "_law_harms" ["_law_cell", "_law_turn", "_law_size", "_law_most"] qh8)
    (qiw : Has P w K mg base 1 "_law_odd" ["_law_d", "_law_size", "_law_harms_here", "_law_contents"] sg_odd) (qhe : Has P w K mg base 11 "_law_made" ["_law_size", "_law_harms_here", "_law_contents"] qki)
    (ygw : Has P w K mg base 8 "_law_stays" ["_law_memory", "_law_size", "_law_turn", "_law_at"] (qhz C))
    (qfb : HasI P w K mg base C 9 "Memory" ["self", "size", "harms", "contents"] (yd1 C))
    {f : Addr} {fd : FuncData} (F : Fun K "law" "law" ygh f fd) : FnOk P w K mg base CX0 12 f fd ["_law_script"] (qh5 K) := by
  refine Mx.Fun.okQ F sc_law (fun vs H Q E h => ?_) (fun cdv A outer s H vs Q E hr h => ?_)
  · obtain ⟨a, ns, rfl, _⟩ := h
    rfl
  · obtain ⟨a, ns, rfl, hS, hnl, k⟩ := h
    have sc := sc_law
    refine ⟨_, (yan rfl (qad (qfq PassesOwn.never rfl (qi_of (yf6 rfl (B.of rfl) (qaa (qbs yd7 (qbi op_catS (pv 0) (yb2 (qaa qac yac))) qci (ybt (qae (yg4 rfl) rfl (B.of rfl) boot_max (qaa qac (qaa (qae (yi0 rfl) rfl (B.of rfl) boot_min (qaa qac (qaa (qae qaj rfl (B.of rfl) boot_len (qaa (pv 0) yac)) yac))) yac))))) yac))) (qf4 rfl (qa2 (qan (i := 1) sc.nd rfl (Or.inl rfl)) (qa2 (qan (i := 2) sc.nd rfl (Or.inl rfl)) ycu)))
        (qad (yar (i := 3) sc.nd rfl (Or.inl rfl) (qap ycp hr (qak (qab (pv 2)) (qak (qab (pv 1)) (qd5 (ybq ycc (qav (yam (qab qac) (yam (qab qac) (yam (qab qac) (yam (qab qac) (yam (qab qac) (yam (qab qac) (yam (qab qac) yad)))))))) (ybq yjk (qav (yam (qab qac) yad)) (qab qac))) yad)))))
        (qad (yar (i := 4) sc.nd rfl (Or.inl rfl) (ybq yb8 (qab qac) (qbe qal (qab (pv 3)) (qab qac) (fun _ _ => rfl))))
        (qad (yar (i := 5) sc.nd rfl (Or.inl rfl) (qap qg6 hr (qak (qab (pv 2)) (qd5 (ybq yb8 (qab qac) (qab (pv 1))) (qak (qab (pv 4)) (yam (qab qac) yad))))))
        (qad (yar (i := 6) sc.nd rfl (Or.inl rfl) (qe_sl yd7 (qab (pv 3)) (ybt qac) (ybt (qbi yb8 qac (pv 4)))))
        (qad (ygn (qap qiw hr (qak (qab (pv 3)) (qak (qab (pv 4)) (qak (qab (pv 5)) (qak (qab (pv 6)) yad))))) (qf4 rfl (qa2 (qan (i := 7) sc.nd rfl (Or.inl rfl)) (qa2 (qan (i := 8) sc.nd rfl (Or.inl rfl)) ycu))))
        (qad (yar (i := 9) sc.nd rfl (Or.inl rfl) (qbv (qe8 hr) rfl (B.of rfl) boot_repr (qak (qab (pv 7)) yad)))
        (qad (ybc (QW.pt (yir (qa6 yix (qap qhe hr (qe0 (qbe qal (qab (pv 7)) (qab qac) (fun _ _ => rfl)) (qe0 (qbe qal (qab (pv 7)) (qab qac) (fun _ _ => rfl)) (qe0 (qbe qal (qab (pv 7)) (qab qac) (fun _ _ => rfl)) yad)))) (qab (pv 8)) (yai _)) (qhx (qa6 yix (qbv (qe8 hr) rfl (B.of rfl) boot_repr (qak (qab (pv 7)) yad)) (qab (pv 9)) (yai _)))))
          (yaf (qay (qab yed)))
          qa1)
        (yaf (ybc (ydw (qcq (qap ygw hr (yiy (qe_makeH qfb hr (qak (qab (pv 4)) (qak (qab (pv 5)) (qak (qab (pv 6)) yad)))) (qak (qab (pv 4)) (qak (qab (pv 1)) (qd5 (ybq qc3 (qbe qal (qab (pv 3)) (qab qac) (fun _ _ => rfl)) (qab (pv 4))) yad)))))))
          (yaf (qay (qab yed)))
          qa1))))))))))
      (yaf (qay (qab yed))))), ?_⟩
    have hsl : (sizeLine : Nat) = 16777216 := sizeLine_eq
    have z1 : 1 ≤ sizeLine := by decide
    have z7 : 7 ≤ sizeLine := by decide
    refine ⟨_, rfl, z1, fun c1 h1 => ?_⟩
    generalize hG1 : upd H c1 _ = H1
    have s1 : Same H H1 := by rw [← hG1]; exact (Same.refl H).upd h1
    have f1 : H1 c1 = some (.lst [.int 0]) := by rw [← hG1]; exact yaa
    refine ⟨a, c1, _, _, rfl, rfl, s1.seq hS, SqL.of f1, by rw [List.length_map]; simp; omega, fun c3 h3 => ?_⟩
    generalize hG3 : upd H1 c3 _ = H3
    have s3 : Same H1 H3 := by rw [← hG3]; exact (Same.refl H1).upd h3
    have f3 : H3 c3 = some (.lst ((ns ++ [0]).map V.int)) := by rw [← hG3]; refine yaa.trans ?_; rw [List.map_append]; rfl
    have s03 := s1.trans s3
    refine ⟨_, rfl, a, _, rfl, .inl (s03.seq hS), _, _, rfl, _, _, rfl, _, rfl, c3, _, rfl, SqL.of f3, fun c4 h4 => ?_⟩
    obtain ⟨cs, hcs, hc12⟩ : ∃ cs : List Int, cutV ((ns ++ [0]).map V.int) none (some (if (if ((ns.map V.int).length : Int) < 12 then ((ns.map V.int).length : Int) else 12) > 1 then (if ((ns.map V.int).length : Int) < 12 then ((ns.map V.int).length : Int) else 12) else 1)) = cs.map V.int ∧ cs.length ≤ 12 := by
      have ek : (if (if ((ns.map V.int).length : Int) < 12 then ((ns.map V.int).length : Int) else 12) > 1 then (if ((ns.map V.int).length : Int) < 12 then ((ns.map V.int).length : Int) else 12) else 1) = ((max 1 (min 12 ns.length) : Nat) : Int) := by
        rw [List.length_map]
        split <;> split at * <;> omega
      refine ⟨(ns ++ [0]).take (max 1 (min 12 ns.length)), by rw [ek, ygd, List.map_take], ?_⟩
      rw [List.length_take, List.length_append, List.length_singleton]; omega
    generalize hG4 : upd H3 c4 _ = H4
    have s4 : Same H3 H4 := by rw [← hG4]; exact (Same.refl H3).upd h4
    have f4 : H4 c4 = some (.lst (cs.map V.int)) := by rw [← hG4, ← hcs]; exact yaa
    clear hG4 hcs hG3 hG1
    refine ⟨c4, _, rfl, SqL.of f4, yew (xs := cs.map V.int) (fun i σ H' => ∃ (o1 o2 o3 o4 o5 o6 o7 o8 o9 : Option V), σ = [some (.ref a), o1, o2, o3, o4, o5, o6, o7, o8, o9] ∧ Same H4 H') ⟨_, _, _, _, _, _, _, _, _, rfl, Same.refl _⟩ (fun i σ H' _ ⟨_, _, _, _, _, _, _, _, _, _, s⟩ => SqL.of (s _ _ f4)) ?_ (fun σ H' _ => k _)⟩
    rintro i x pp σ H5 hx ⟨o1, o2, o3, o4, o5, o6, o7, o8, o9, rfl, s5⟩ hpp
    obtain ⟨c, hc, rfl⟩ := qj5 hx
    have hi12 : i < cs.length := (List.getElem?_eq_some_iff.mp hc).1
    refine ⟨pp, _, rfl, SqT.of yaa, rfl, _, _, rfl, _, _, rfl, rfl, ?_⟩
    have s6 := s5.upd (o := .tup [V.int i, .int c]) hpp
    revert s6
    generalize upd H5 pp (.tup [V.int i, .int c]) = H6
    intro s6
    -- the digits
    refine ⟨_, rfl, _, rfl, z7, fun p1 v1 => ?_⟩
    generalize hK1 : upd H6 p1 _ = K1
    have t1 : Same H6 K1 := by rw [← hK1]; exact (Same.refl H6).upd v1
    have u1 : K1 p1 = some (.lst [.int 9, .int 4, .int 10, .int 4, .int 10, .int 8, .int 10]) := by rw [← hK1]; exact yaa
    refine ⟨z1, fun p2 v2 => ?_⟩
    generalize hK2 : upd K1 p2 _ = K2
    have t2 : Same K1 K2 := by rw [← hK2]; exact (Same.refl K1).upd v2
    have u2 : K2 p2 = some (.lst [.int 2]) := by rw [← hK2]; exact yaa
    refine ⟨p2, 12, _, rfl, rfl, u2, by decide, by decide, qgs (by decide), fun p3 v3 => ?_⟩
    generalize hK3 : upd K2 p3 _ = K3
    have t3 : Same K2 K3 := by rw [← hK3]; exact (Same.refl K2).upd v3
    have u3 : K3 p3 = some (.lst ((List.replicate 12 (2 : Int)).map V.int)) := by rw [← hK3, yaa]; simp
    refine ⟨p1, p3, _, _, rfl, rfl, (t2.trans t3) _ _ u1, u3, qgs (by simp), fun p4 v4 => ?_⟩
    generalize hK4 : upd K3 p4 _ = K4
    have t4 : Same K3 K4 := by rw [← hK4]; exact (Same.refl K3).upd v4
    have u4 : K4 p4 = some (.lst (([9, 4, 10, 4, 10, 8, 10, 2, 2, 2, 2, 2, 2, 2, 2, 2, 2, 2, 2] : List Int).map V.int)) := by rw [← hK4]; exact yaa
    refine ⟨c, i, p4, [9, 4, 10, 4, 10, 8, 10, 2, 2, 2, 2, 2, 2, 2, 2, 2, 2, 2, 2], rfl, u4, by decide, by decide, by omega, by omega, fun dp ds H7 s7 ndp hdp hD => ?_⟩
    have s67 : Same H6 H7 := (((t1.trans t2).trans t3).trans t4).trans s7
    obtain ⟨d0, g0, m0, n0⟩ := hD.get (i := 0) (z := 9) rfl
    have dl : ds.length = 19 := hD.1
    have hbits : ∀ x ∈ ds.drop 7, ∃ b, x = b2i b := fun x hx => by
      obtain ⟨i, hi⟩ := List.getElem?_of_mem hx
      rw [List.getElem?_drop] at hi
      have hil := (List.getElem?_eq_some_iff.mp hi).1
      obtain ⟨y, h1, h2, h3⟩ := hD.get (i := 7 + i) (z := 2) (by
        rcases (by omega : i = 0 ∨ i = 1 ∨ i = 2 ∨ i = 3 ∨ i = 4 ∨ i = 5 ∨ i = 6 ∨ i = 7 ∨ i = 8 ∨ i = 9 ∨ i = 10 ∨ i = 11) with rfl | rfl | rfl | rfl | rfl | rfl | rfl | rfl | rfl | rfl | rfl | rfl <;> rfl)
      rw [hi] at h1
      cases h1
      exact yj0 h2 h3
    obtain ⟨n, hn⟩ : ∃ n : Nat, 4 + d0 = (n : Int) := ⟨(4 + d0).toNat, by omega⟩
    refine ⟨_, rfl, dp, _, _, _, rfl, rfl, SqL.of hdp, qaf 0 (qbd g0), _, _, rfl, rfl, ?_⟩
    show yft 4 (V.int (4 + d0)) _ _ _
    rw [hn]
    refine gn ?_
    dsimp only
    refine ⟨_, rfl, _, rfl, _, _, rfl, rfl, _, rfl, c, 1 + (i : Int), n, rfl, by omega, by omega, by omega, by omega, fun L us hs S H8 s8 nL hL hv ok hl ir => ?_⟩
    refine ⟨_, rfl, 7, rfl, _, rfl, _, _, rfl, rfl, _, rfl, dp, _, rfl, SqL.of (s8 _ _ hdp), fun cp w3 => ?_⟩
    obtain ⟨bs, ecut, hcl, hcb⟩ : ∃ bs : List Int, cutV (ds.map V.int) (some 7) (some ((7 : Int) + (n : Int))) = bs.map V.int ∧ bs.length = n ∧ bits bs := by
      refine ⟨(ds.drop 7).take n, ?_, by rw [List.length_take, List.length_drop]; omega, fun c hc => hbits c (List.mem_of_mem_take hc)⟩
      rw [show (7 : Int) + (n : Int) = ((7 + n : Nat) : Int) by omega, show (7 : Int) = ((7 : Nat) : Int) from rfl, qj9, List.length_map, dl, ← List.map_drop, ← List.map_take,
        show min (7 + n) 19 - min 7 19 = n by omega, show min 7 19 = 7 by omega]
    generalize hK9 : upd H8 cp _ = H9
    have s9 : Same H8 H9 := by rw [← hK9]; exact (Same.refl H8).upd w3
    have f9 : H9 cp = some (.lst (bs.map V.int)) := by rw [← hK9, ← ecut]; exact yaa
    clear hK9 ecut
    have s79 := s8.trans s9
    refine ⟨_, rfl, _, rfl, _, rfl, _, rfl, dp, L, cp, n, ds, us, hs, S, bs, rfl, s79 _ _ hdp, hD, by omega, by omega, s9 _ _ hL, hv.same s9, ok, hl, ir, f9, hcb, hcl, fun r p vh vc vz dh dc dz due HA sA er ep ah ac az sh sc sz hdue => ?_⟩
    refine ⟨r, _, rfl, SqT.of er, rfl, _, _, rfl, _, _, rfl, rfl, ?_⟩
    obtain ⟨r1, r2, r3⟩ := sh_le sh sc sz
    have hall : AllX HA [vh, vc, vz] [dh, dc, dz] := .cons ah (.cons ac (.cons az .nil))
    refine ⟨_, rfl, p, _, _, rfl, ep, (fun z => by cases z), hall, r1, r2, r3, ?_⟩
    refine ⟨_, rfl, p, _, _, _, rfl, rfl, SqL.of ep, qaf 2 rfl, _, rfl, p, _, _, _, rfl, rfl, SqL.of ep, qaf 0 rfl, _, rfl, p, _, _, _, rfl, rfl, SqL.of ep, qaf 1 rfl, vz, vh, vc, dz, dh, dc, rfl, az, ah, ac, fun HB sB => ?_⟩
    refine ⟨_, rfl, rfl, _, rfl, iteN (by rw [hdue]; simp) ?_⟩
    refine ⟨_, rfl, p, _, _, rfl, sB _ _ ep, (fun z => by cases z), hall.same sB, r1, r2, r3, _, rfl, rfl, _, rfl, iteN (by simp) ?_⟩
    -- the good one
    have s9B := sA.trans sB
    refine ⟨_, rfl, _, rfl, _, rfl, ?_⟩
    intro x dx nx ndx nxd
    generalize hKx : upd (upd HB dx (.own x)) x (.ins C dx []) = HC
    have sC : Same HB HC := by rw [← hKx]; exact ((Same.refl HB).upd (o := .own x) ndx).upd (o := .ins C dx []) (p := x) (by rw [qag (fun z => nxd z.symm)]; exact nx)
    have fC : HC x = some (.ins C dx []) := by rw [← hKx]; exact yaa
    clear hKx
    have s9C := s9B.trans sC
    have s4B : Same H4 HB := ((s6.trans s67).trans s79).trans s9B
    subst hcl
    refine ⟨x, dx, L, cp, us, hs, S, bs, rfl, fC, (s9.trans s9C) _ _ hL, hv.same (s9.trans s9C), ok, ir, s9C _ _ f9, hcb, by omega, by omega, fun L' C' HD stD nL' nC' mo => ⟨rfl, ?_⟩⟩
    have upD : ∀ {b : Addr} {u : HO}, HB b = some u → HD b = some u := fun {b u} e => stD b u (fun z => by subst z; rw [nx] at e; cases e) (sC _ _ e)
    obtain ⟨at', hat', hatl⟩ : ∃ k : Nat, d0 % (bs.length : Int) = (k : Int) ∧ k < bs.length := by
      have h1 := Int.emod_nonneg d0 (b := (bs.length : Int)) (by omega)
      have h2 := Int.emod_lt_of_pos d0 (b := (bs.length : Int)) (by omega)
      exact ⟨(d0 % (bs.length : Int)).toNat, by omega, by omega⟩
    refine ⟨_, rfl, _, rfl, _, rfl, dp, _, _, _, rfl, rfl, SqL.of (upD ((s79.trans s9B) _ _ hdp)), qaf 0 (qbd g0), _, rfl, _, _, rfl, rfl, (by show (0 : Int) < (bs.length : Int); omega), ?_⟩
    refine ⟨x, L', C', us, hs, qgg hs bs, i, at', ?_, mo, ?_, ?_, ?_, fun H' ds' u' => ?_⟩
    · show [V.ref x, V.int (bs.length : Nat), V.int (i : Int), V.int (d0 % (bs.length : Int))] = _
      rw [hat', qct]
    · rw [qct]; exact ir
    · rw [qct]; exact hatl
    · rw [qct]; omega
    · refine ⟨_, rfl, iteN rfl ?_⟩
      exact ⟨_, _, _, _, _, _, _, _, _, rfl, fun b u e => u'.st b u (fun z => by subst z; have := (s4B.trans sC) _ _ e; rw [nC'] at this; cases this) (upD (s4B _ _ e))⟩
end
section
variable {P : Program} {w : World} {K : PySem.W.Frag} {mg : Str → Option Value} {base : Heap}
abbrev qde : Stmt := qed (top 4) 0
theorem yg2 : FnScope ["self", "number"] ["self", "number"] (yab qde) := ⟨rfl, rfl, rfl, by decide +kernel, rfl, by decide +kernel, by decide +kernel⟩
theorem yj7 {f C : Addr} {fd : FuncData} (F : Fun K "__init__" "NoHarms.__init__" qde f fd) (c : XOk K C) (n1 : NoF K C "number") : FnOk P w K mg base CX0 1 f fd ["self", "number"] (sp_x1 C "number") := by
  refine F.ok yg2 (fun vs H Q E h => ?_) (fun cdv A outer s H vs Q E hr h => ?_)
  · obtain ⟨a, v, rfl, _⟩ := h
    rfl
  · obtain ⟨a, v, rfl, hx, k⟩ := h
    have sc := yg2
    refine ⟨_, (yae (ps_xfld (pv 0) (pv 1))), ?_⟩
    exact ⟨_, rfl, _, rfl, a, C, none, [], rfl, hx, c, n1, by decide, fun d H1 x1 s1 => k d H1 x1 s1⟩
end
end Mh
namespace Mh
open PySem L2 PyProof.Rows
open Mx
theorem qdi {K : PySem.W.Frag} {a : Addr} {xs : List V} {od : Option Addr} {its : Array Value} {n : Nat} {sl : Array (Option Value)} (h2 : K.lookup a = some ⟨.type "tuple", od, .seq its n, sl⟩) (z : its.size ≤ sizeLine) (r : Vals xs its.toList) : ∀ H, SqT K H a xs :=
  fun H => .inr ⟨_, its, n, h2, rfl, rfl, z, r⟩
def xcO (o : Obj) (C : Addr) : Option (List Value) := match o with
  | ⟨.type "type", _, .cls cd, sl⟩ => (match cd.mro, sl.toList with
    | .ref D :: bm, [_, _, _, _, some (.builtin n), _] => if (D == C && n == "ValueError.__new__" && !cd.hasDel && cd.hasDict) = true then some bm else none
    | _, _ => none)
  | _ => none
theorem qjz {o : Obj} {C : Addr} {bm : List Value} (q : xcO o C = some bm) : ∃ od cd sl k0 k1 k2 k3 k5, o = ⟨.type "type", od, .cls cd, sl⟩ ∧ cd.mro = .ref C :: bm ∧ sl.toList = [k0, k1, k2, k3, some (.builtin "ValueError.__new__"), k5] ∧ cd.hasDel = false ∧ cd.hasDict = true := by
  unfold xcO at q
  split at q
  · rename_i od cd sl
    split at q
    · rename_i D bm' n k0 k1 k2 k3 n' k5 h1 h2
      split at q
      · rename_i h3
        cases q
        simp only [Bool.and_eq_true, beq_iff_eq, Bool.not_eq_true'] at h3
        obtain ⟨⟨⟨rfl, rfl⟩, h5⟩, h6⟩ := h3
        exact ⟨od, cd, sl, _, _, _, _, _, rfl, h1, h2, h5, h6⟩
      · cases q
    · cases q
  · cases q
theorem qhs {K : PySem.W.Frag} {o : Obj} {C : Addr} {bm : List Value} (l : K.lookup C = some o) (q : xcO o C = some bm) (e : PySem.W.excIn K C bmV "ValueError.__new__" = true) : PySem.W.tailIn K bmV bm = true := by
  obtain ⟨od, cd, sl, k0, k1, k2, k3, k5, rfl, h1, h2, h5, h6⟩ := qjz q
  unfold PySem.W.excIn at e
  rw [l] at e
  simp only [h1, h2, Bool.and_eq_true] at e
  exact e.1.1.2
theorem xclsB_of {K : PySem.W.Frag} {o : Obj} {C : Addr} {bm : List Value} (l : K.lookup C = some o) (q : xcO o C = some bm) (t : PySem.W.tailIn K bmV bm = true) : qem K C = true := by
  obtain ⟨od, cd, sl, k0, k1, k2, k3, k5, rfl, h1, h2, h5, h6⟩ := qjz q
  unfold qem
  rw [l]
  simp only [h1, h2, h5, h6, t]
  simp
theorem yid {K : PySem.W.Frag} {o : Obj} {C : Addr} {bm : List Value} (l : K.lookup C = some o) (q : xcO o C = some bm) (t : PySem.W.tailIn K bmV bm = true) (ga : PySem.W.findIn K (.ref C) "__getattribute__" = some (some (.builtin "BaseException.__getattribute__"))) (gh : PySem.W.findIn K (.ref C) "__getattr__" = some none)
    (ha : PySem.W.findIn K (.ref C) "__class__" = some (some (.builtin "object.__class__"))) (hn : PySem.W.specialIn K (.builtin "object.__class__") "__get__" = some (some (.builtin "getset_descriptor.__get__"))) (tk : PySem.W.takesIn K (.builtin "object.__class__") = some true) (hm : PySem.W.mroIn K C (.type "object") = some true)
    (sa : PySem.W.findIn K (.ref C) "__setattr__" = some (some (.builtin "object.__setattr__"))) : XOk K C := by
  refine ⟨⟨xclsB_of l q t, ga, gh, ?_, ha, hn, tk, hm⟩, sa⟩
  obtain ⟨od, cd, sl, k0, k1, k2, k3, k5, rfl, h1, h2, h5, h6⟩ := qjz q
  unfold PySem.W.clsIn
  rw [l]
  rfl
theorem yap {K : PySem.W.Frag} {h : Heap} {mg : Str → Option Value} {x : Str} {st : Stmt} {ps : List Str} {f : Addr} {oc : Value} {od an : Option Addr} {osl : Array (Option Value)} {kV doc pm cdv ct : Value} (X : K.In h) (G : h.Ns mainGlobals mg)
    (a : PySem.W.nsIn K mainGlobals x = some (some (.ref f))) (l : K.lookup f = some ⟨oc, od, .func (PySem.W.fnOf x x (yaj st) (yag st) (yab st) .none kV doc pm an cdv ct), osl⟩) (c : PySem.W.codeIn K cdv x = true) (k : PySem.W.keepIn K (.ref f) = true)
    (hb : ∀ (kV doc pm : Value) (an : Option Addr) (cdv ct : Value) (us : List Value), us.length = ps.length → bindArgs (PySem.W.fnOf x x (yaj st) (yag st) (yab st) .none kV doc pm an cdv ct) ⟨us, []⟩ = pure (ps.zip us)) : FnAt K mg x st ps := by
  have F := qcn (st := st) l c k
  exact ⟨f, _, PySem.W.mg_of X G a, F, F.binds hb⟩
set_option maxHeartbeats 0 in
theorem all_mk {l : PySem.W.OpenLaw} {w : World} {K : PySem.W.Frag} {h : Heap} {mg : Str → Option Value} {fa : Addr} (X : K.In h) (G : h.Ns mainGlobals mg) (hfa : mg "law" = some (.ref fa))
    {f0 : Addr} {od0 an0 : Option Addr} {sl0 : Array (Option Value)} {oc0 kV0 dc0 pm0 cd0 ct0 : Value}
    (a0 : PySem.W.nsIn K mainGlobals "is_whole" = some (some (.ref f0)))
    (l0 : K.lookup f0 = some ⟨oc0, od0, .func (PySem.W.fnOf "is_whole" "is_whole" (yaj yb0) (yag yb0) (yab yb0) .none kV0 dc0 pm0 an0 cd0 ct0), sl0⟩)
    (c0 : PySem.W.codeIn K cd0 "is_whole" = true)
    (k0 : PySem.W.keepIn K (.ref f0) = true)
    {f1 : Addr} {od1 an1 : Option Addr} {sl1 : Array (Option Value)} {oc1 kV1 dc1 pm1 cd1 ct1 : Value}
    (a1 : PySem.W.nsIn K mainGlobals "is_bit" = some (some (.ref f1)))
    (l1 : K.lookup f1 = some ⟨oc1, od1, .func (PySem.W.fnOf "is_bit" "is_bit" (yaj qco) (yag qco) (yab qco) .none kV1 dc1 pm1 an1 cd1 ct1), sl1⟩)
    (c1 : PySem.W.codeIn K cd1 "is_bit" = true)
    (k1 : PySem.W.keepIn K (.ref f1) = true)
    {f2 : Addr} {od2 an2 : Option Addr} {sl2 : Array (Option Value)} {oc2 kV2 dc2 pm2 cd2 ct2 : Value}
    (a2 : PySem.W.nsIn K mainGlobals "is_one_of" = some (some (.ref f2)))
    (l2 : K.lookup f2 = some ⟨oc2, od2, .func (PySem.W.fnOf "is_one_of" "is_one_of" (yaj qbn) (yag qbn) (yab qbn) .none kV2 dc2 pm2 an2 cd2 ct2), sl2⟩)
    (c2 : PySem.W.codeIn K cd2 "is_one_of" = true)
    (k2 : PySem.W.keepIn K (.ref f2) = true)
    {f3 : Addr} {od3 an3 : Option Addr} {sl3 : Array (Option Value)} {oc3 kV3 dc3 pm3 cd3 ct3 : Value}
    (a3 : PySem.W.nsIn K mainGlobals "is_cell" = some (some (.ref f3)))
    (l3 : K.lookup f3 = some ⟨oc3, od3, .func (PySem.W.fnOf "is_cell" "is_cell" (yaj yb9) (yag yb9) (yab yb9) .none kV3 dc3 pm3 an3 cd3 ct3), sl3⟩)
    (c3 : PySem.W.codeIn K cd3 "is_cell" = true)
    (k3 : PySem.W.keepIn K (.ref f3) = true)
    {f4 : Addr} {od4 an4 : Option Addr} {sl4 : Array (Option Value)} {oc4 kV4 dc4 pm4 cd4 ct4 : Value}
    (a4 : PySem.W.nsIn K mainGlobals "is_part" = some (some (.ref f4)))
    (l4 : K.lookup f4 = some ⟨oc4, od4, .func (PySem.W.fnOf "is_part" "is_part" (yaj qca) (yag qca) (yab qca) .none kV4 dc4 pm4 an4 cd4 ct4), sl4⟩)
    (c4 : PySem.W.codeIn K cd4 "is_part" = true)
    (k4 : PySem.W.keepIn K (.ref f4) = true)
    {f5 : Addr} {od5 an5 : Option Addr} {sl5 : Array (Option Value)} {oc5 kV5 dc5 pm5 cd5 ct5 : Value}
    (a5 : PySem.W.nsIn K mainGlobals "has_word" = some (some (.ref f5)))
    (l5 : K.lookup f5 = some ⟨oc5, od5, .func (PySem.W.fnOf "has_word" "has_word" (yaj qb0) (yag qb0) (yab qb0) .none kV5 dc5 pm5 an5 cd5 ct5), sl5⟩)
    (c5 : PySem.W.codeIn K cd5 "has_word" = true)
    (k5 : PySem.W.keepIn K (.ref f5) = true)
    {f6 : Addr} {od6 an6 : Option Addr} {sl6 : Array (Option Value)} {oc6 kV6 dc6 pm6 cd6 ct6 : Value}
    (a6 : PySem.W.nsIn K mainGlobals "cells_in" = some (some (.ref f6)))
    (l6 : K.lookup f6 = some ⟨oc6, od6, .func (PySem.W.fnOf "cells_in" "cells_in" (yaj qbz) (yag qbz) (yab qbz) .none kV6 dc6 pm6 an6 cd6 ct6), sl6⟩)
    (c6 : PySem.W.codeIn K cd6 "cells_in" = true)
    (k6 : PySem.W.keepIn K (.ref f6) = true)
    {f7 : Addr} {od7 an7 : Option Addr} {sl7 : Array (Option Value)} {oc7 kV7 dc7 pm7 cd7 ct7 : Value}
    (a7 : PySem.W.nsIn K mainGlobals "has_parts" = some (some (.ref f7)))
    (l7 : K.lookup f7 = some ⟨oc7, od7, .func (PySem.W.fnOf "has_parts" "has_parts" (yaj ybn) (yag ybn) (yab ybn) .none kV7 dc7 pm7 an7 cd7 ct7), sl7⟩)
    (c7 : PySem.W.codeIn K cd7 "has_parts" = true)
    (k7 : PySem.W.keepIn K (.ref f7) = true)
    {f8 : Addr} {od8 an8 : Option Addr} {sl8 : Array (Option Value)} {oc8 kV8 dc8 pm8 cd8 ct8 : Value}
    (a8 : PySem.W.nsIn K mainGlobals "is_harm" = some (some (.ref f8)))
    (l8 : K.lookup f8 = some ⟨oc8, od8, .func (PySem.W.fnOf "is_harm" "is_harm" (yaj qb9) (yag qb9) (yab qb9) .none kV8 dc8 pm8 an8 cd8 ct8), sl8⟩)
    (c8 : PySem.W.codeIn K cd8 "is_harm" = true)
    (k8 : PySem.W.keepIn K (.ref f8) = true)
    {f9 : Addr} {od9 an9 : Option Addr} {sl9 : Array (Option Value)} {oc9 kV9 dc9 pm9 cd9 ct9 : Value}
    (a9 : PySem.W.nsIn K mainGlobals "look_at_harms" = some (some (.ref f9)))
    (l9 : K.lookup f9 = some ⟨oc9, od9, .func (PySem.W.fnOf "look_at_harms" "look_at_harms" (yaj qa0) (yag qa0) (yab qa0) .none kV9 dc9 pm9 an9 cd9 ct9), sl9⟩)
    (c9 : PySem.W.codeIn K cd9 "look_at_harms" = true)
    (k9 : PySem.W.keepIn K (.ref f9) = true)
    {f10 : Addr} {od10 an10 : Option Addr} {sl10 : Array (Option Value)} {oc10 kV10 dc10 pm10 cd10 ct10 : Value}
    (a10 : PySem.W.nsIn K mainGlobals "cells_of" = some (some (.ref f10)))
    (l10 : K.lookup f10 = some ⟨oc10, od10, .func (PySem.W.fnOf "cells_of" "cells_of" (yaj ybz) (yag ybz) (yab ybz) .none kV10 dc10 pm10 an10 cd10 ct10), sl10⟩)
    (c10 : PySem.W.codeIn K cd10 "cells_of" = true)
    (k10 : PySem.W.keepIn K (.ref f10) = true)
    {f11 : Addr} {od11 an11 : Option Addr} {sl11 : Array (Option Value)} {oc11 kV11 dc11 pm11 cd11 ct11 : Value}
    (a11 : PySem.W.nsIn K mainGlobals "stuck_bit" = some (some (.ref f11)))
    (l11 : K.lookup f11 = some ⟨oc11, od11, .func (PySem.W.fnOf "stuck_bit" "stuck_bit" (yaj ybx) (yag ybx) (yab ybx) .none kV11 dc11 pm11 an11 cd11 ct11), sl11⟩)
    (c11 : PySem.W.codeIn K cd11 "stuck_bit" = true)
    (k11 : PySem.W.keepIn K (.ref f11) = true)
    {f12 : Addr} {od12 an12 : Option Addr} {sl12 : Array (Option Value)} {oc12 kV12 dc12 pm12 cd12 ct12 : Value}
    (a12 : PySem.W.nsIn K mainGlobals "put" = some (some (.ref f12)))
    (l12 : K.lookup f12 = some ⟨oc12, od12, .func (PySem.W.fnOf "put" "put" (yaj qij) (yag qij) (yab qij) .none kV12 dc12 pm12 an12 cd12 ct12), sl12⟩)
    (c12 : PySem.W.codeIn K cd12 "put" = true)
    (k12 : PySem.W.keepIn K (.ref f12) = true)
    {f13 : Addr} {od13 an13 : Option Addr} {sl13 : Array (Option Value)} {oc13 kV13 dc13 pm13 cd13 ct13 : Value}
    (a13 : PySem.W.nsIn K mainGlobals "settle" = some (some (.ref f13)))
    (l13 : K.lookup f13 = some ⟨oc13, od13, .func (PySem.W.fnOf "settle" "settle" (yaj qdg) (yag qdg) (yab qdg) .none kV13 dc13 pm13 an13 cd13 ct13), sl13⟩)
    (c13 : PySem.W.codeIn K cd13 "settle" = true)
    (k13 : PySem.W.keepIn K (.ref f13) = true)
    {f14 : Addr} {od14 an14 : Option Addr} {sl14 : Array (Option Value)} {oc14 kV14 dc14 pm14 cd14 ct14 : Value}
    (a14 : PySem.W.nsIn K mainGlobals "harm_of_address" = some (some (.ref f14)))
    (l14 : K.lookup f14 = some ⟨oc14, od14, .func (PySem.W.fnOf "harm_of_address" "harm_of_address" (yaj yaz) (yag yaz) (yab yaz) .none kV14 dc14 pm14 an14 cd14 ct14), sl14⟩)
    (c14 : PySem.W.codeIn K cd14 "harm_of_address" = true)
    (k14 : PySem.W.keepIn K (.ref f14) = true)
    {f15 : Addr} {od15 an15 : Option Addr} {sl15 : Array (Option Value)} {oc15 kV15 dc15 pm15 cd15 ct15 : Value}
    (a15 : PySem.W.nsIn K mainGlobals "reached_cells" = some (some (.ref f15)))
    (l15 : K.lookup f15 = some ⟨oc15, od15, .func (PySem.W.fnOf "reached_cells" "reached_cells" (yaj qa8) (yag qa8) (yab qa8) .none kV15 dc15 pm15 an15 cd15 ct15), sl15⟩)
    (c15 : PySem.W.codeIn K cd15 "reached_cells" = true)
    (k15 : PySem.W.keepIn K (.ref f15) = true)
    {f16 : Addr} {od16 an16 : Option Addr} {sl16 : Array (Option Value)} {oc16 kV16 dc16 pm16 cd16 ct16 : Value}
    (a16 : PySem.W.nsIn K mainGlobals "is_slow" = some (some (.ref f16)))
    (l16 : K.lookup f16 = some ⟨oc16, od16, .func (PySem.W.fnOf "is_slow" "is_slow" (yaj qcm) (yag qcm) (yab qcm) .none kV16 dc16 pm16 an16 cd16 ct16), sl16⟩)
    (c16 : PySem.W.codeIn K cd16 "is_slow" = true)
    (k16 : PySem.W.keepIn K (.ref f16) = true)
    {f17 : Addr} {od17 an17 : Option Addr} {sl17 : Array (Option Value)} {oc17 kV17 dc17 pm17 cd17 ct17 : Value}
    (a17 : PySem.W.nsIn K mainGlobals "kept_bit" = some (some (.ref f17)))
    (l17 : K.lookup f17 = some ⟨oc17, od17, .func (PySem.W.fnOf "kept_bit" "kept_bit" (yaj qb6) (yag qb6) (yab qb6) .none kV17 dc17 pm17 an17 cd17 ct17), sl17⟩)
    (c17 : PySem.W.codeIn K cd17 "kept_bit" = true)
    (k17 : PySem.W.keepIn K (.ref f17) = true)
    {f18 : Addr} {od18 an18 : Option Addr} {sl18 : Array (Option Value)} {oc18 kV18 dc18 pm18 cd18 ct18 : Value}
    (a18 : PySem.W.nsIn K mainGlobals "act_on_others" = some (some (.ref f18)))
    (l18 : K.lookup f18 = some ⟨oc18, od18, .func (PySem.W.fnOf "act_on_others" "act_on_others" (yaj ya7) (yag ya7) (yab ya7) .none kV18 dc18 pm18 an18 cd18 ct18), sl18⟩)
    (c18 : PySem.W.codeIn K cd18 "act_on_others" = true)
    (k18 : PySem.W.keepIn K (.ref f18) = true)
    {f19 : Addr} {od19 an19 : Option Addr} {sl19 : Array (Option Value)} {oc19 kV19 dc19 pm19 cd19 ct19 : Value}
    (a19 : PySem.W.nsIn K mainGlobals "write_cell" = some (some (.ref f19)))
    (l19 : K.lookup f19 = some ⟨oc19, od19, .func (PySem.W.fnOf "write_cell" "write_cell" (yaj qbo) (yag qbo) (yab qbo) .none kV19 dc19 pm19 an19 cd19 ct19), sl19⟩)
    (c19 : PySem.W.codeIn K cd19 "write_cell" = true)
    (k19 : PySem.W.keepIn K (.ref f19) = true)
    {f20 : Addr} {od20 an20 : Option Addr} {sl20 : Array (Option Value)} {oc20 kV20 dc20 pm20 cd20 ct20 : Value}
    (a20 : PySem.W.nsIn K mainGlobals "write_at" = some (some (.ref f20)))
    (l20 : K.lookup f20 = some ⟨oc20, od20, .func (PySem.W.fnOf "write_at" "write_at" (yaj qb7) (yag qb7) (yab qb7) .none kV20 dc20 pm20 an20 cd20 ct20), sl20⟩)
    (c20 : PySem.W.codeIn K cd20 "write_at" = true)
    (k20 : PySem.W.keepIn K (.ref f20) = true)
    {f21 : Addr} {od21 an21 : Option Addr} {sl21 : Array (Option Value)} {oc21 kV21 dc21 pm21 cd21 ct21 : Value}
    (a21 : PySem.W.nsIn K mainGlobals "is_size" = some (some (.ref f21)))
    (l21 : K.lookup f21 = some ⟨oc21, od21, .func (PySem.W.fnOf "is_size" "is_size" (yaj ycb) (yag ycb) (yab ycb) .none kV21 dc21 pm21 an21 cd21 ct21), sl21⟩)
    (c21 : PySem.W.codeIn K cd21 "is_size" = true)
    (k21 : PySem.W.keepIn K (.ref f21) = true)
    {f22 : Addr} {od22 an22 : Option Addr} {sl22 : Array (Option Value)} {oc22 kV22 dc22 pm22 cd22 ct22 : Value}
    (a22 : PySem.W.nsIn K mainGlobals "are_contents" = some (some (.ref f22)))
    (l22 : K.lookup f22 = some ⟨oc22, od22, .func (PySem.W.fnOf "are_contents" "are_contents" (yaj qa5) (yag qa5) (yab qa5) .none kV22 dc22 pm22 an22 cd22 ct22), sl22⟩)
    (c22 : PySem.W.codeIn K cd22 "are_contents" = true)
    (k22 : PySem.W.keepIn K (.ref f22) = true)
    {f23 : Addr} {od23 an23 : Option Addr} {sl23 : Array (Option Value)} {oc23 kV23 dc23 pm23 cd23 ct23 : Value}
    (a23 : PySem.W.nsIn K mainGlobals "look_at_memory" = some (some (.ref f23)))
    (l23 : K.lookup f23 = some ⟨oc23, od23, .func (PySem.W.fnOf "look_at_memory" "look_at_memory" (yaj qax) (yag qax) (yab qax) .none kV23 dc23 pm23 an23 cd23 ct23), sl23⟩)
    (c23 : PySem.W.codeIn K cd23 "look_at_memory" = true)
    (k23 : PySem.W.keepIn K (.ref f23) = true)
    {f24 : Addr} {od24 an24 : Option Addr} {sl24 : Array (Option Value)} {oc24 kV24 dc24 pm24 cd24 ct24 : Value}
    (a24 : PySem.W.nsIn K mainGlobals "look_at_bit" = some (some (.ref f24)))
    (l24 : K.lookup f24 = some ⟨oc24, od24, .func (PySem.W.fnOf "look_at_bit" "look_at_bit" (yaj ya9) (yag ya9) (yab ya9) .none kV24 dc24 pm24 an24 cd24 ct24), sl24⟩)
    (c24 : PySem.W.codeIn K cd24 "look_at_bit" = true)
    (k24 : PySem.W.keepIn K (.ref f24) = true)
    {f25 : Addr} {od25 an25 : Option Addr} {sl25 : Array (Option Value)} {oc25 kV25 dc25 pm25 cd25 ct25 : Value}
    (a25 : PySem.W.nsIn K mainGlobals "_law_digits" = some (some (.ref f25)))
    (l25 : K.lookup f25 = some ⟨oc25, od25, .func (PySem.W.fnOf "_law_digits" "_law_digits" (yaj qbh) (yag qbh) (yab qbh) .none kV25 dc25 pm25 an25 cd25 ct25), sl25⟩)
    (c25 : PySem.W.codeIn K cd25 "_law_digits" = true)
    (k25 : PySem.W.keepIn K (.ref f25) = true)
    {f26 : Addr} {od26 an26 : Option Addr} {sl26 : Array (Option Value)} {oc26 kV26 dc26 pm26 cd26 ct26 : Value}
    (a26 : PySem.W.nsIn K mainGlobals "_law_harm" = some (some (.ref f26)))
    (l26 : K.lookup f26 = some ⟨oc26, od26, .func (PySem.W.fnOf "_law_harm" "_law_harm" (yaj ybw) (yag ybw) (yab ybw) .none kV26 dc26 pm26 an26 cd26 ct26), sl26⟩)
    (c26 : PySem.W.codeIn K cd26 "_law_harm" = true)
    (k26 : PySem.W.keepIn K (.ref f26) = true)
    {f27 : Addr} {od27 an27 : Option Addr} {sl27 : Array (Option Value)} {oc27 kV27 dc27 pm27 cd27 ct27 : Value}
    (a27 : PySem.W.nsIn K mainGlobals "_law_harms" = some (some (.ref f27)))
    (l27 : K.lookup f27 = some ⟨oc27, od27, .func (PySem.W.fnOf "_law_harms" "_law_harms" (yaj ybp) (yag ybp) (yab ybp) .none kV27 dc27 pm27 an27 cd27 ct27), sl27⟩)
    (c27 : PySem.W.codeIn K cd27 "_law_harms" = true)
    (k27 : PySem.W.keepIn K (.ref f27) = true)
    {f28 : Addr} {od28 an28 : Option Addr} {sl28 : Array (Option Value)} {oc28 kV28 dc28 pm28 cd28 ct28 : Value}
    (a28 : PySem.W.nsIn K mainGlobals "_law_kind" = some (some (.ref f28)))
    (l28 : K.lookup f28 = some ⟨oc28, od28, .func (PySem.W.fnOf "_law_kind" "_law_kind" (yaj qby) (yag qby) (yab qby) .none kV28 dc28 pm28 an28 cd28 ct28), sl28⟩)
    (c28 : PySem.W.codeIn K cd28 "_law_kind" = true)
    (k28 : PySem.W.keepIn K (.ref f28) = true)
    {f29 : Addr} {od29 an29 : Option Addr} {sl29 : Array (Option Value)} {oc29 kV29 dc29 pm29 cd29 ct29 : Value}
    (a29 : PySem.W.nsIn K mainGlobals "_law_made" = some (some (.ref f29)))
    (l29 : K.lookup f29 = some ⟨oc29, od29, .func (PySem.W.fnOf "_law_made" "_law_made" (yaj qbx) (yag qbx) (yab qbx) .none kV29 dc29 pm29 an29 cd29 ct29), sl29⟩)
    (c29 : PySem.W.codeIn K cd29 "_law_made" = true)
    (k29 : PySem.W.keepIn K (.ref f29) = true)
    {f30 : Addr} {od30 an30 : Option Addr} {sl30 : Array (Option Value)} {oc30 kV30 dc30 pm30 cd30 ct30 : Value}
    (a30 : PySem.W.nsIn K mainGlobals "_law_asked" = some (some (.ref f30)))
    (l30 : K.lookup f30 = some ⟨oc30, od30, .func (PySem.W.fnOf "_law_asked" "_law_asked" (yaj qbp) (yag qbp) (yab qbp) .none kV30 dc30 pm30 an30 cd30 ct30), sl30⟩)
    (c30 : PySem.W.codeIn K cd30 "_law_asked" = true)
    (k30 : PySem.W.keepIn K (.ref f30) = true)
    {f31 : Addr} {od31 an31 : Option Addr} {sl31 : Array (Option Value)} {oc31 kV31 dc31 pm31 cd31 ct31 : Value}
    (a31 : PySem.W.nsIn K mainGlobals "_law_odd" = some (some (.ref f31)))
    (l31 : K.lookup f31 = some ⟨oc31, od31, .func (PySem.W.fnOf "_law_odd" "_law_odd" (yaj yb6) (yag yb6) (yab yb6) .none kV31 dc31 pm31 an31 cd31 ct31), sl31⟩)
    (c31 : PySem.W.codeIn K cd31 "_law_odd" = true)
    (k31 : PySem.W.keepIn K (.ref f31) = true)
    {f32 : Addr} {od32 an32 : Option Addr} {sl32 : Array (Option Value)} {oc32 kV32 dc32 pm32 cd32 ct32 : Value}
    (a32 : PySem.W.nsIn K mainGlobals "_law_stays" = some (some (.ref f32)))
    (l32 : K.lookup f32 = some ⟨oc32, od32, .func (PySem.W.fnOf "_law_stays" "_law_stays" (yaj ybo) (yag ybo) (yab ybo) .none kV32 dc32 pm32 an32 cd32 ct32), sl32⟩)
    (c32 : PySem.W.codeIn K cd32 "_law_stays" = true)
    (k32 : PySem.W.keepIn K (.ref f32) = true)
    {f33 : Addr} {od33 an33 : Option Addr} {sl33 : Array (Option Value)} {oc33 kV33 dc33 pm33 cd33 ct33 : Value}
    (a33 : PySem.W.nsIn K mainGlobals "law" = some (some (.ref f33)))
    (l33 : K.lookup f33 = some ⟨oc33, od33, .func (PySem.W.fnOf "law" "law" (yaj ygh) (yag ygh) (yab ygh) .none kV33 dc33 pm33 an33 cd33 ct33), sl33⟩)
    (c33 : PySem.W.codeIn K cd33 "law" = true)
    (k33 : PySem.W.keepIn K (.ref f33) = true)
    (z0 : PySem.W.nsIn K mainGlobals "len" = some none)
    (z1 : PySem.W.nsIn K mainGlobals "abs" = some none)
    (z2 : PySem.W.nsIn K mainGlobals "max" = some none)
    (z3 : PySem.W.nsIn K mainGlobals "min" = some none)
    (z4 : PySem.W.nsIn K mainGlobals "repr" = some none)
    (z5 : PySem.W.nsIn K mainGlobals "isinstance" = some none)
    (z6 : PySem.W.nsIn K mainGlobals "int" = some none)
    (z7 : PySem.W.nsIn K mainGlobals "bool" = some none)
    (z8 : PySem.W.nsIn K mainGlobals "str" = some none)
    (z9 : PySem.W.nsIn K mainGlobals "tuple" = some none)
    (z10 : PySem.W.nsIn K mainGlobals "list" = some none)
    (z11 : PySem.W.nsIn K mainGlobals "dict" = some none)
    (z12 : PySem.W.nsIn K mainGlobals "range" = some none)
    (z13 : PySem.W.nsIn K mainGlobals "enumerate" = some none)
    (z14 : PySem.W.nsIn K mainGlobals "sorted" = some none)
    (z15 : PySem.W.nsIn K mainGlobals "sum" = some none)
    {R0 : Addr}
    (RA0 : PySem.W.nsIn K mainGlobals "NoTest" = some (some (.ref R0)))
    {R1 : Addr}
    (RA1 : PySem.W.nsIn K mainGlobals "NoText" = some (some (.ref R1)))
    {R2 : Addr}
    (RA2 : PySem.W.nsIn K mainGlobals "NoHarms" = some (some (.ref R2)))
    {R3 : Addr}
    (RA3 : PySem.W.nsIn K mainGlobals "NoMemory" = some (some (.ref R3)))
    {R4 : Addr}
    (RA4 : PySem.W.nsIn K mainGlobals "NoAddress" = some (some (.ref R4)))
    {R5 : Addr}
    (RA5 : PySem.W.nsIn K mainGlobals "NoBit" = some (some (.ref R5)))
    {R6 : Addr}
    (RA6 : PySem.W.nsIn K mainGlobals "NoOrders" = some (some (.ref R6)))
    {R7 : Addr}
    (RA7 : PySem.W.nsIn K mainGlobals "NotSure" = some (some (.ref R7)))
    {R8 : Addr}
    (RA8 : PySem.W.nsIn K mainGlobals "NoKind" = some (some (.ref R8)))
    {R9 : Addr}
    (RA9 : PySem.W.nsIn K mainGlobals "NoSpares" = some (some (.ref R9)))
    {R10 : Addr}
    (RA10 : PySem.W.nsIn K mainGlobals "NoRow" = some (some (.ref R10)))
    {R11 : Addr}
    (RA11 : PySem.W.nsIn K mainGlobals "NoName" = some (some (.ref R11)))
    {R12 : Addr}
    (RA12 : PySem.W.nsIn K mainGlobals "TooMany" = some (some (.ref R12)))
    {RM : Addr}
    (RM_ : PySem.W.nsIn K mainGlobals "MarchError" = some (some (.ref RM)))
    {Ro2 : Obj} {Rbm : List Value}
    (Rlk2 : K.lookup R2 = some Ro2)
    (Rq2 : xcO Ro2 R2 = some Rbm)
    {Ro3 : Obj}
    (Rlk3 : K.lookup R3 = some Ro3)
    (Rq3 : xcO Ro3 R3 = some Rbm)
    (Rex3 : PySem.W.excIn K R3 bmV "ValueError.__new__" = true)
    {Ro4 : Obj}
    (Rlk4 : K.lookup R4 = some Ro4)
    (Rq4 : xcO Ro4 R4 = some Rbm)
    (Rex4 : PySem.W.excIn K R4 bmV "ValueError.__new__" = true)
    {Ro5 : Obj}
    (Rlk5 : K.lookup R5 = some Ro5)
    (Rq5 : xcO Ro5 R5 = some Rbm)
    (Rex5 : PySem.W.excIn K R5 bmV "ValueError.__new__" = true)
    (Rkp2 : PySem.W.keepIn K (.ref R2) = true)
    (Rga2 : PySem.W.findIn K (.ref R2) "__getattribute__" = some (some (.builtin "BaseException.__getattribute__")))
    (Rgh2 : PySem.W.findIn K (.ref R2) "__getattr__" = some none)
    (Rha2 : PySem.W.findIn K (.ref R2) "__class__" = some (some (.builtin "object.__class__")))
    (Rhm2 : PySem.W.mroIn K R2 (.type "object") = some true)
    (Rsa2 : PySem.W.findIn K (.ref R2) "__setattr__" = some (some (.builtin "object.__setattr__")))
    (Ro0_2 : PySem.W.kitOne K (.ref R2) (.ref R0) = some false)
    (Ro1_2 : PySem.W.kitOne K (.ref R2) (.ref R1) = some false)
    (Ro2_2 : PySem.W.kitOne K (.ref R2) (.ref R2) = some true)
    (Ro3_2 : PySem.W.kitOne K (.ref R2) (.ref R3) = some false)
    (Ro4_2 : PySem.W.kitOne K (.ref R2) (.ref R4) = some false)
    (Ro5_2 : PySem.W.kitOne K (.ref R2) (.ref R5) = some false)
    (Ro6_2 : PySem.W.kitOne K (.ref R2) (.ref R6) = some false)
    (Ro7_2 : PySem.W.kitOne K (.ref R2) (.ref R7) = some false)
    (Ro8_2 : PySem.W.kitOne K (.ref R2) (.ref R8) = some false)
    (Ro9_2 : PySem.W.kitOne K (.ref R2) (.ref R9) = some false)
    (Ro10_2 : PySem.W.kitOne K (.ref R2) (.ref R10) = some false)
    (Ro11_2 : PySem.W.kitOne K (.ref R2) (.ref R11) = some false)
    (Ro12_2 : PySem.W.kitOne K (.ref R2) (.ref R12) = some false)
    (Rve2 : PySem.W.kitOne K (.ref R2) (.type "ValueError") = some true)
    (Rem2 : PySem.W.exmOne K (.ref R2) (.ref RM) = some true)
    (Rn2_0 : PySem.W.findIn K (.ref R2) "number" = some none)
    {fI2 : Addr} {odI2 anI2 : Option Addr} {slI2 : Array (Option Value)} {ocI2 kVI2 dcI2 pmI2 cdI2 ctI2 : Value}
    (Rhi2 : PySem.W.findIn K (.ref R2) "__init__" = some (some (.ref fI2)))
    (Rhf2 : PySem.W.isFn K (.ref fI2) = true)
    (RlI2 : K.lookup fI2 = some ⟨ocI2, odI2, .func (PySem.W.fnOf "__init__" "NoHarms.__init__" (yaj qde) (yag qde) (yab qde) .none kVI2 dcI2 pmI2 anI2 cdI2 ctI2), slI2⟩)
    (RcI2 : PySem.W.codeIn K cdI2 "NoHarms.__init__" = true)
    (RkI2 : PySem.W.keepIn K (.ref fI2) = true)
    (Rkp3 : PySem.W.keepIn K (.ref R3) = true)
    (Rga3 : PySem.W.findIn K (.ref R3) "__getattribute__" = some (some (.builtin "BaseException.__getattribute__")))
    (Rgh3 : PySem.W.findIn K (.ref R3) "__getattr__" = some none)
    (Rha3 : PySem.W.findIn K (.ref R3) "__class__" = some (some (.builtin "object.__class__")))
    (Rhm3 : PySem.W.mroIn K R3 (.type "object") = some true)
    (Rsa3 : PySem.W.findIn K (.ref R3) "__setattr__" = some (some (.builtin "object.__setattr__")))
    (Ro0_3 : PySem.W.kitOne K (.ref R3) (.ref R0) = some false)
    (Ro1_3 : PySem.W.kitOne K (.ref R3) (.ref R1) = some false)
    (Ro2_3 : PySem.W.kitOne K (.ref R3) (.ref R2) = some false)
    (Ro3_3 : PySem.W.kitOne K (.ref R3) (.ref R3) = some true)
    (Ro4_3 : PySem.W.kitOne K (.ref R3) (.ref R4) = some false)
    (Ro5_3 : PySem.W.kitOne K (.ref R3) (.ref R5) = some false)
    (Ro6_3 : PySem.W.kitOne K (.ref R3) (.ref R6) = some false)
    (Ro7_3 : PySem.W.kitOne K (.ref R3) (.ref R7) = some false)
    (Ro8_3 : PySem.W.kitOne K (.ref R3) (.ref R8) = some false)
    (Ro9_3 : PySem.W.kitOne K (.ref R3) (.ref R9) = some false)
    (Ro10_3 : PySem.W.kitOne K (.ref R3) (.ref R10) = some false)
    (Ro11_3 : PySem.W.kitOne K (.ref R3) (.ref R11) = some false)
    (Ro12_3 : PySem.W.kitOne K (.ref R3) (.ref R12) = some false)
    (Rve3 : PySem.W.kitOne K (.ref R3) (.type "ValueError") = some true)
    (Rem3 : PySem.W.exmOne K (.ref R3) (.ref RM) = some true)
    (Rkp4 : PySem.W.keepIn K (.ref R4) = true)
    (Rga4 : PySem.W.findIn K (.ref R4) "__getattribute__" = some (some (.builtin "BaseException.__getattribute__")))
    (Rgh4 : PySem.W.findIn K (.ref R4) "__getattr__" = some none)
    (Rha4 : PySem.W.findIn K (.ref R4) "__class__" = some (some (.builtin "object.__class__")))
    (Rhm4 : PySem.W.mroIn K R4 (.type "object") = some true)
    (Rsa4 : PySem.W.findIn K (.ref R4) "__setattr__" = some (some (.builtin "object.__setattr__")))
    (Ro0_4 : PySem.W.kitOne K (.ref R4) (.ref R0) = some false)
    (Ro1_4 : PySem.W.kitOne K (.ref R4) (.ref R1) = some false)
    (Ro2_4 : PySem.W.kitOne K (.ref R4) (.ref R2) = some false)
    (Ro3_4 : PySem.W.kitOne K (.ref R4) (.ref R3) = some false)
    (Ro4_4 : PySem.W.kitOne K (.ref R4) (.ref R4) = some true)
    (Ro5_4 : PySem.W.kitOne K (.ref R4) (.ref R5) = some false)
    (Ro6_4 : PySem.W.kitOne K (.ref R4) (.ref R6) = some false)
    (Ro7_4 : PySem.W.kitOne K (.ref R4) (.ref R7) = some false)
    (Ro8_4 : PySem.W.kitOne K (.ref R4) (.ref R8) = some false)
    (Ro9_4 : PySem.W.kitOne K (.ref R4) (.ref R9) = some false)
    (Ro10_4 : PySem.W.kitOne K (.ref R4) (.ref R10) = some false)
    (Ro11_4 : PySem.W.kitOne K (.ref R4) (.ref R11) = some false)
    (Ro12_4 : PySem.W.kitOne K (.ref R4) (.ref R12) = some false)
    (Rve4 : PySem.W.kitOne K (.ref R4) (.type "ValueError") = some true)
    (Rem4 : PySem.W.exmOne K (.ref R4) (.ref RM) = some true)
    (Rkp5 : PySem.W.keepIn K (.ref R5) = true)
    (Rga5 : PySem.W.findIn K (.ref R5) "__getattribute__" = some (some (.builtin "BaseException.__getattribute__")))
    (Rgh5 : PySem.W.findIn K (.ref R5) "__getattr__" = some none)
    (Rha5 : PySem.W.findIn K (.ref R5) "__class__" = some (some (.builtin "object.__class__")))
    (Rhm5 : PySem.W.mroIn K R5 (.type "object") = some true)
    (Rsa5 : PySem.W.findIn K (.ref R5) "__setattr__" = some (some (.builtin "object.__setattr__")))
    (Ro0_5 : PySem.W.kitOne K (.ref R5) (.ref R0) = some false)
    (Ro1_5 : PySem.W.kitOne K (.ref R5) (.ref R1) = some false)
    (Ro2_5 : PySem.W.kitOne K (.ref R5) (.ref R2) = some false)
    (Ro3_5 : PySem.W.kitOne K (.ref R5) (.ref R3) = some false)
    (Ro4_5 : PySem.W.kitOne K (.ref R5) (.ref R4) = some false)
    (Ro5_5 : PySem.W.kitOne K (.ref R5) (.ref R5) = some true)
    (Ro6_5 : PySem.W.kitOne K (.ref R5) (.ref R6) = some false)
    (Ro7_5 : PySem.W.kitOne K (.ref R5) (.ref R7) = some false)
    (Ro8_5 : PySem.W.kitOne K (.ref R5) (.ref R8) = some false)
    (Ro9_5 : PySem.W.kitOne K (.ref R5) (.ref R9) = some false)
    (Ro10_5 : PySem.W.kitOne K (.ref R5) (.ref R10) = some false)
    (Ro11_5 : PySem.W.kitOne K (.ref R5) (.ref R11) = some false)
    (Ro12_5 : PySem.W.kitOne K (.ref R5) (.ref R12) = some false)
    (Rve5 : PySem.W.kitOne K (.ref R5) (.type "ValueError") = some true)
    (Rem5 : PySem.W.exmOne K (.ref R5) (.ref RM) = some true)
    (Rhn : PySem.W.specialIn K (.builtin "object.__class__") "__get__" = some (some (.builtin "getset_descriptor.__get__")))
    (Rtk : PySem.W.takesIn K (.builtin "object.__class__") = some true)
    (RzV : PySem.W.nsIn K mainGlobals "ValueError" = some none)
    (zset : PySem.W.nsIn K mainGlobals "set" = some none)
    (zzip : PySem.W.nsIn K mainGlobals "zip" = some none)
    (zall : PySem.W.nsIn K mainGlobals "all" = some none)
    {w1 w2 w3 : Tok}
    (aMC : PySem.W.nsIn K mainGlobals "MOST_CELLS" = some (some (.int 64 w1)))
    (aMH : PySem.W.nsIn K mainGlobals "MOST_HARMS" = some (some (.int 3 w2)))
    (aMU : PySem.W.nsIn K mainGlobals "MOST_UNLIKE" = some (some (.int 3 w3)))
    {tJ : Addr} {uj1 uj2 : Tok} {odJ : Option Addr} {nJ : Nat} {slJ : Array (Option Value)}
    (aJ : PySem.W.nsIn K mainGlobals "JOININGS" = some (some (.ref tJ)))
    (lJ : K.lookup tJ = some ⟨.type "tuple", odJ, .seq #[.str "and" uj1, .str "or" uj2] nJ, slJ⟩)
    {tP qp0 qp1 qp2 qp3 qp4 qp5 qp6 qp7 qp8 qp9 : Addr} {xp0 xp1 xp2 xp3 xp4 xp5 xp6 xp7 xp8 xp9 : Int} {kp0 kp1 kp2 kp3 kp4 kp5 kp6 kp7 kp8 kp9 : Tok} {epP : Nat}
    (aP : PySem.W.nsIn K mainGlobals "PARTS" = some (some (.ref tP)))
    (lP : K.lookup tP = some ⟨.type "dict", none, .dict #[⟨xp0, .str "stuck" kp0, .ref qp0⟩, ⟨xp1, .str "slow" kp1, .ref qp1⟩, ⟨xp2, .str "forgets" kp2, .ref qp2⟩, ⟨xp3, .str "misreads" kp3, .ref qp3⟩, ⟨xp4, .str "turns" kp4, .ref qp4⟩, ⟨xp5, .str "sets" kp5, .ref qp5⟩, ⟨xp6, .str "keeps" kp6, .ref qp6⟩, ⟨xp7, .str "nowhere" kp7, .ref qp7⟩, ⟨xp8, .str "other" kp8, .ref qp8⟩, ⟨xp9, .str "both" kp9, .ref qp9⟩] epP, #[]⟩)
    (mP : (tP == sysModules) = false)
    {oqp0 : Option Addr} {yp0_0 yp0_1 : Tok} {mp0 : Nat} {sqp0 : Array (Option Value)}
    (tp0 : K.lookup qp0 = some ⟨.type "tuple", oqp0, .seq #[.str "cell" yp0_0, .str "bit" yp0_1] mp0, sqp0⟩)
    {oqp1 : Option Addr} {yp1_0 yp1_1 : Tok} {mp1 : Nat} {sqp1 : Array (Option Value)}
    (tp1 : K.lookup qp1 = some ⟨.type "tuple", oqp1, .seq #[.str "cell" yp1_0, .str "bit" yp1_1] mp1, sqp1⟩)
    {oqp2 : Option Addr} {yp2_0 yp2_1 : Tok} {mp2 : Nat} {sqp2 : Array (Option Value)}
    (tp2 : K.lookup qp2 = some ⟨.type "tuple", oqp2, .seq #[.str "cell" yp2_0, .str "bit" yp2_1] mp2, sqp2⟩)
    {oqp3 : Option Addr} {yp3_0 yp3_1 : Tok} {mp3 : Nat} {sqp3 : Array (Option Value)}
    (tp3 : K.lookup qp3 = some ⟨.type "tuple", oqp3, .seq #[.str "cell" yp3_0, .str "bit" yp3_1] mp3, sqp3⟩)
    {oqp4 : Option Addr} {yp4_0 yp4_1 yp4_2 : Tok} {mp4 : Nat} {sqp4 : Array (Option Value)}
    (tp4 : K.lookup qp4 = some ⟨.type "tuple", oqp4, .seq #[.str "cell" yp4_0, .str "cell" yp4_1, .str "bit" yp4_2] mp4, sqp4⟩)
    {oqp5 : Option Addr} {yp5_0 yp5_1 yp5_2 yp5_3 : Tok} {mp5 : Nat} {sqp5 : Array (Option Value)}
    (tp5 : K.lookup qp5 = some ⟨.type "tuple", oqp5, .seq #[.str "cell" yp5_0, .str "cell" yp5_1, .str "bit" yp5_2, .str "bit" yp5_3] mp5, sqp5⟩)
    {oqp6 : Option Addr} {yp6_0 yp6_1 yp6_2 yp6_3 : Tok} {mp6 : Nat} {sqp6 : Array (Option Value)}
    (tp6 : K.lookup qp6 = some ⟨.type "tuple", oqp6, .seq #[.str "cell" yp6_0, .str "cell" yp6_1, .str "bit" yp6_2, .str "bit" yp6_3] mp6, sqp6⟩)
    {oqp7 : Option Addr} {yp7_0 yp7_1 : Tok} {mp7 : Nat} {sqp7 : Array (Option Value)}
    (tp7 : K.lookup qp7 = some ⟨.type "tuple", oqp7, .seq #[.str "cell" yp7_0, .str "bit" yp7_1] mp7, sqp7⟩)
    {oqp8 : Option Addr} {yp8_0 yp8_1 : Tok} {mp8 : Nat} {sqp8 : Array (Option Value)}
    (tp8 : K.lookup qp8 = some ⟨.type "tuple", oqp8, .seq #[.str "cell" yp8_0, .str "cell" yp8_1] mp8, sqp8⟩)
    {oqp9 : Option Addr} {yp9_0 yp9_1 yp9_2 : Tok} {mp9 : Nat} {sqp9 : Array (Option Value)}
    (tp9 : K.lookup qp9 = some ⟨.type "tuple", oqp9, .seq #[.str "cell" yp9_0, .str "cell" yp9_1, .str "how" yp9_2] mp9, sqp9⟩)
    {C0 : Addr}
    (ca0 : PySem.W.nsIn K mainGlobals "Memory" = some (some (.ref C0)))
    (cp0 : PySem.W.plainGet K C0 Str.empty = true)
    (cd0_ : PySem.W.hasDictIn K C0 = true)
    (co0 : PySem.W.plainOver K C0 = true)
    (cs0 : PySem.W.findIn K (.ref C0) "__setattr__" = some (some (.builtin "object.__setattr__")))
    (cf0_0 : PySem.W.findIn K (.ref C0) "harms" = some none)
    (cf0_1 : PySem.W.findIn K (.ref C0) "cells" = some none)
    (cm0_ : PySem.W.makesIn K C0 = true)
    (ck0 : PySem.W.keepIn K (.ref C0) = true)
    {fm0_0 : Addr} {odm0_0 anm0_0 : Option Addr} {slm0_0 : Array (Option Value)} {ocm0_0 kVm0_0 dcm0_0 pmm0_0 cdm0_0 ctm0_0 : Value}
    (am0_0 : PySem.W.findIn K (.ref C0) "__init__" = some (some (.ref fm0_0)))
    (lm0_0 : K.lookup fm0_0 = some ⟨ocm0_0, odm0_0, .func (PySem.W.fnOf "__init__" "Memory.__init__" (yaj qam) (yag qam) (yab qam) .none kVm0_0 dcm0_0 pmm0_0 anm0_0 cdm0_0 ctm0_0), slm0_0⟩)
    (cm0_0 : PySem.W.codeIn K cdm0_0 "Memory.__init__" = true)
    (im0_0 : PySem.W.isFn K (.ref fm0_0) = true)
    (km0_0 : PySem.W.keepIn K (.ref fm0_0) = true)
    {fm0_1 : Addr} {odm0_1 anm0_1 : Option Addr} {slm0_1 : Array (Option Value)} {ocm0_1 kVm0_1 dcm0_1 pmm0_1 cdm0_1 ctm0_1 : Value}
    (am0_1 : PySem.W.findIn K (.ref C0) "look_at_address" = some (some (.ref fm0_1)))
    (lm0_1 : K.lookup fm0_1 = some ⟨ocm0_1, odm0_1, .func (PySem.W.fnOf "look_at_address" "Memory.look_at_address" (yaj qai) (yag qai) (yab qai) .none kVm0_1 dcm0_1 pmm0_1 anm0_1 cdm0_1 ctm0_1), slm0_1⟩)
    (cm0_1 : PySem.W.codeIn K cdm0_1 "Memory.look_at_address" = true)
    (im0_1 : PySem.W.isFn K (.ref fm0_1) = true)
    (km0_1 : PySem.W.keepIn K (.ref fm0_1) = true)
    {fm0_2 : Addr} {odm0_2 anm0_2 : Option Addr} {slm0_2 : Array (Option Value)} {ocm0_2 kVm0_2 dcm0_2 pmm0_2 cdm0_2 ctm0_2 : Value}
    (am0_2 : PySem.W.findIn K (.ref C0) "read" = some (some (.ref fm0_2)))
    (lm0_2 : K.lookup fm0_2 = some ⟨ocm0_2, odm0_2, .func (PySem.W.fnOf "read" "Memory.read" (yaj ya4) (yag ya4) (yab ya4) .none kVm0_2 dcm0_2 pmm0_2 anm0_2 cdm0_2 ctm0_2), slm0_2⟩)
    (cm0_2 : PySem.W.codeIn K cdm0_2 "Memory.read" = true)
    (im0_2 : PySem.W.isFn K (.ref fm0_2) = true)
    (km0_2 : PySem.W.keepIn K (.ref fm0_2) = true)
    {fm0_3 : Addr} {odm0_3 anm0_3 : Option Addr} {slm0_3 : Array (Option Value)} {ocm0_3 kVm0_3 dcm0_3 pmm0_3 cdm0_3 ctm0_3 : Value}
    (am0_3 : PySem.W.findIn K (.ref C0) "write" = some (some (.ref fm0_3)))
    (lm0_3 : K.lookup fm0_3 = some ⟨ocm0_3, odm0_3, .func (PySem.W.fnOf "write" "Memory.write" (yaj qaq) (yag qaq) (yab qaq) .none kVm0_3 dcm0_3 pmm0_3 anm0_3 cdm0_3 ctm0_3), slm0_3⟩)
    (cm0_3 : PySem.W.codeIn K cdm0_3 "Memory.write" = true)
    (im0_3 : PySem.W.isFn K (.ref fm0_3) = true)
    (km0_3 : PySem.W.keepIn K (.ref fm0_3) = true)
    {fm0_4 : Addr} {odm0_4 anm0_4 : Option Addr} {slm0_4 : Array (Option Value)} {ocm0_4 kVm0_4 dcm0_4 pmm0_4 cdm0_4 ctm0_4 : Value}
    (am0_4 : PySem.W.findIn K (.ref C0) "holds" = some (some (.ref fm0_4)))
    (lm0_4 : K.lookup fm0_4 = some ⟨ocm0_4, odm0_4, .func (PySem.W.fnOf "holds" "Memory.holds" (yaj qaz) (yag qaz) (yab qaz) .none kVm0_4 dcm0_4 pmm0_4 anm0_4 cdm0_4 ctm0_4), slm0_4⟩)
    (cm0_4 : PySem.W.codeIn K cdm0_4 "Memory.holds" = true)
    (im0_4 : PySem.W.isFn K (.ref fm0_4) = true)
    (km0_4 : PySem.W.keepIn K (.ref fm0_4) = true) :
    ∃ fd : FuncData, (∀ (s : Shared) (v : Value), BindsTo s fd ⟨[v], []⟩ [("_law_script", v)]) ∧ ∀ base : Heap, K.In base → base.Ns mainGlobals mg → FnOk l.prog w K mg base CX0 12 fa fd ["_law_script"] (qh5 K) := by
  have e := hfa.symm.trans (PySem.W.mg_of X G a33)
  cases e
  have B : Bl mg := ⟨fun x hx => by
    unfold yhc at hx
    simp only [List.mem_cons, List.not_mem_nil, or_false] at hx
    rcases hx with rfl | rfl | rfl | rfl | rfl | rfl | rfl | rfl | rfl | rfl | rfl | rfl | rfl | rfl | rfl | rfl
    · exact PySem.W.mg_none_of X G z0
    · exact PySem.W.mg_none_of X G z1
    · exact PySem.W.mg_none_of X G z2
    · exact PySem.W.mg_none_of X G z3
    · exact PySem.W.mg_none_of X G z4
    · exact PySem.W.mg_none_of X G z5
    · exact PySem.W.mg_none_of X G z6
    · exact PySem.W.mg_none_of X G z7
    · exact PySem.W.mg_none_of X G z8
    · exact PySem.W.mg_none_of X G z9
    · exact PySem.W.mg_none_of X G z10
    · exact PySem.W.mg_none_of X G z11
    · exact PySem.W.mg_none_of X G z12
    · exact PySem.W.mg_none_of X G z13
    · exact PySem.W.mg_none_of X G z14
    · exact PySem.W.mg_none_of X G z15⟩
  have hVE := PySem.W.mg_none_of X G RzV
  have gm := PySem.W.mg_of X G RM_
  have Rtl := qhs Rlk3 Rq3 Rex3
  have RX2 := yid Rlk2 Rq2 Rtl Rga2 Rgh2 Rha2 Rhn Rtk Rhm2 Rsa2
  have RX3 := yid Rlk3 Rq3 Rtl Rga3 Rgh3 Rha3 Rhn Rtk Rhm3 Rsa3
  have RX4 := yid Rlk4 Rq4 Rtl Rga4 Rgh4 Rha4 Rhn Rtk Rhm4 Rsa4
  have RX5 := yid Rlk5 Rq5 Rtl Rga5 Rgh5 Rha5 Rhn Rtk Rhm5 Rsa5
  have xB3 : yhk K mg "NoMemory" R3 := ⟨PySem.W.mg_of X G RA3, Rkp3, RX3.toXTy, Rex3⟩
  have xB4 : yhk K mg "NoAddress" R4 := ⟨PySem.W.mg_of X G RA4, Rkp4, RX4.toXTy, Rex4⟩
  have xB5 : yhk K mg "NoBit" R5 := ⟨PySem.W.mg_of X G RA5, Rkp5, RX5.toXTy, Rex5⟩
  have RG : ∀ i x, nms[i]? = some x → mg x = some (.ref ((fun i => ([R0, R1, R2, R3, R4, R5, R6, R7, R8, R9, R10, R11, R12] : List Addr).getD i 0) i)) := by
    intro i x hx
    match i, hx with
    | 0, hx => cases hx; exact PySem.W.mg_of X G RA0
    | 1, hx => cases hx; exact PySem.W.mg_of X G RA1
    | 2, hx => cases hx; exact PySem.W.mg_of X G RA2
    | 3, hx => cases hx; exact PySem.W.mg_of X G RA3
    | 4, hx => cases hx; exact PySem.W.mg_of X G RA4
    | 5, hx => cases hx; exact PySem.W.mg_of X G RA5
    | 6, hx => cases hx; exact PySem.W.mg_of X G RA6
    | 7, hx => cases hx; exact PySem.W.mg_of X G RA7
    | 8, hx => cases hx; exact PySem.W.mg_of X G RA8
    | 9, hx => cases hx; exact PySem.W.mg_of X G RA9
    | 10, hx => cases hx; exact PySem.W.mg_of X G RA10
    | 11, hx => cases hx; exact PySem.W.mg_of X G RA11
    | 12, hx => cases hx; exact PySem.W.mg_of X G RA12
    | i + 13, hx => cases hx
  have KX2 : KX K (fun i => ([R0, R1, R2, R3, R4, R5, R6, R7, R8, R9, R10, R11, R12] : List Addr).getD i 0) RM 2 := by
    refine ⟨by decide, RX2.toXTy, fun i hi => ?_, Rve2, Rem2⟩
    match i, hi with
    | 0, _ => exact Ro0_2
    | 1, _ => exact Ro1_2
    | 2, _ => exact Ro2_2
    | 3, _ => exact Ro3_2
    | 4, _ => exact Ro4_2
    | 5, _ => exact Ro5_2
    | 6, _ => exact Ro6_2
    | 7, _ => exact Ro7_2
    | 8, _ => exact Ro8_2
    | 9, _ => exact Ro9_2
    | 10, _ => exact Ro10_2
    | 11, _ => exact Ro11_2
    | 12, _ => exact Ro12_2
  have KX3 : KX K (fun i => ([R0, R1, R2, R3, R4, R5, R6, R7, R8, R9, R10, R11, R12] : List Addr).getD i 0) RM 3 := by
    refine ⟨by decide, RX3.toXTy, fun i hi => ?_, Rve3, Rem3⟩
    match i, hi with
    | 0, _ => exact Ro0_3
    | 1, _ => exact Ro1_3
    | 2, _ => exact Ro2_3
    | 3, _ => exact Ro3_3
    | 4, _ => exact Ro4_3
    | 5, _ => exact Ro5_3
    | 6, _ => exact Ro6_3
    | 7, _ => exact Ro7_3
    | 8, _ => exact Ro8_3
    | 9, _ => exact Ro9_3
    | 10, _ => exact Ro10_3
    | 11, _ => exact Ro11_3
    | 12, _ => exact Ro12_3
  have KX4 : KX K (fun i => ([R0, R1, R2, R3, R4, R5, R6, R7, R8, R9, R10, R11, R12] : List Addr).getD i 0) RM 4 := by
    refine ⟨by decide, RX4.toXTy, fun i hi => ?_, Rve4, Rem4⟩
    match i, hi with
    | 0, _ => exact Ro0_4
    | 1, _ => exact Ro1_4
    | 2, _ => exact Ro2_4
    | 3, _ => exact Ro3_4
    | 4, _ => exact Ro4_4
    | 5, _ => exact Ro5_4
    | 6, _ => exact Ro6_4
    | 7, _ => exact Ro7_4
    | 8, _ => exact Ro8_4
    | 9, _ => exact Ro9_4
    | 10, _ => exact Ro10_4
    | 11, _ => exact Ro11_4
    | 12, _ => exact Ro12_4
  have KX5 : KX K (fun i => ([R0, R1, R2, R3, R4, R5, R6, R7, R8, R9, R10, R11, R12] : List Addr).getD i 0) RM 5 := by
    refine ⟨by decide, RX5.toXTy, fun i hi => ?_, Rve5, Rem5⟩
    match i, hi with
    | 0, _ => exact Ro0_5
    | 1, _ => exact Ro1_5
    | 2, _ => exact Ro2_5
    | 3, _ => exact Ro3_5
    | 4, _ => exact Ro4_5
    | 5, _ => exact Ro5_5
    | 6, _ => exact Ro6_5
    | 7, _ => exact Ro7_5
    | 8, _ => exact Ro8_5
    | 9, _ => exact Ro9_5
    | 10, _ => exact Ro10_5
    | 11, _ => exact Ro11_5
    | 12, _ => exact Ro12_5
  have qc0 : mg "set" = none := PySem.W.mg_none_of X G zset
  have yep : mg "zip" = none := PySem.W.mg_none_of X G zzip
  have yem : mg "all" = none := PySem.W.mg_none_of X G zall
  have g_MC : ∃ t, mg "MOST_CELLS" = some (.int 64 t) := ⟨_, PySem.W.mg_of X G aMC⟩
  have g_MH : ∃ t, mg "MOST_HARMS" = some (.int 3 t) := ⟨_, PySem.W.mg_of X G aMH⟩
  have g_MU : ∃ t, mg "MOST_UNLIKE" = some (.int 3 t) := ⟨_, PySem.W.mg_of X G aMU⟩
  have g_J : GTup K mg "JOININGS" [.str "and", .str "or"] := gtup_mk (PySem.W.mg_of X G aJ) lJ (by show 2 ≤ sizeLine; decide) (.cons ⟨_, rfl⟩ (.cons ⟨_, rfl⟩ .nil))
  have gP := PySem.W.mg_of X G aP
  have sp0 : ∀ H, SqT K H qp0 [.str "cell", .str "bit"] := qdi tp0 (by show 2 ≤ sizeLine; decide) (.cons ⟨_, rfl⟩ (.cons ⟨_, rfl⟩ .nil))
  have sp1 : ∀ H, SqT K H qp1 [.str "cell", .str "bit"] := qdi tp1 (by show 2 ≤ sizeLine; decide) (.cons ⟨_, rfl⟩ (.cons ⟨_, rfl⟩ .nil))
  have sp2 : ∀ H, SqT K H qp2 [.str "cell", .str "bit"] := qdi tp2 (by show 2 ≤ sizeLine; decide) (.cons ⟨_, rfl⟩ (.cons ⟨_, rfl⟩ .nil))
  have sp3 : ∀ H, SqT K H qp3 [.str "cell", .str "bit"] := qdi tp3 (by show 2 ≤ sizeLine; decide) (.cons ⟨_, rfl⟩ (.cons ⟨_, rfl⟩ .nil))
  have sp4 : ∀ H, SqT K H qp4 [.str "cell", .str "cell", .str "bit"] := qdi tp4 (by show 3 ≤ sizeLine; decide) (.cons ⟨_, rfl⟩ (.cons ⟨_, rfl⟩ (.cons ⟨_, rfl⟩ .nil)))
  have sp5 : ∀ H, SqT K H qp5 [.str "cell", .str "cell", .str "bit", .str "bit"] := qdi tp5 (by show 4 ≤ sizeLine; decide) (.cons ⟨_, rfl⟩ (.cons ⟨_, rfl⟩ (.cons ⟨_, rfl⟩ (.cons ⟨_, rfl⟩ .nil))))
  have sp6 : ∀ H, SqT K H qp6 [.str "cell", .str "cell", .str "bit", .str "bit"] := qdi tp6 (by show 4 ≤ sizeLine; decide) (.cons ⟨_, rfl⟩ (.cons ⟨_, rfl⟩ (.cons ⟨_, rfl⟩ (.cons ⟨_, rfl⟩ .nil))))
  have sp7 : ∀ H, SqT K H qp7 [.str "cell", .str "bit"] := qdi tp7 (by show 2 ≤ sizeLine; decide) (.cons ⟨_, rfl⟩ (.cons ⟨_, rfl⟩ .nil))
  have sp8 : ∀ H, SqT K H qp8 [.str "cell", .str "cell"] := qdi tp8 (by show 2 ≤ sizeLine; decide) (.cons ⟨_, rfl⟩ (.cons ⟨_, rfl⟩ .nil))
  have sp9 : ∀ H, SqT K H qp9 [.str "cell", .str "cell", .str "how"] := qdi tp9 (by show 3 ≤ sizeLine; decide) (.cons ⟨_, rfl⟩ (.cons ⟨_, rfl⟩ (.cons ⟨_, rfl⟩ .nil)))
  have TP : TabK K tP tabP := ⟨mP, _, _, _, lP, ⟨rfl, rfl, rfl⟩, rfl, (.cons rfl ⟨_, rfl, sp0⟩ (.cons rfl ⟨_, rfl, sp1⟩ (.cons rfl ⟨_, rfl, sp2⟩ (.cons rfl ⟨_, rfl, sp3⟩ (.cons rfl ⟨_, rfl, sp4⟩ (.cons rfl ⟨_, rfl, sp5⟩ (.cons rfl ⟨_, rfl, sp6⟩ (.cons rfl ⟨_, rfl, sp7⟩ (.cons rfl ⟨_, rfl, sp8⟩ (.cons rfl ⟨_, rfl, sp9⟩ .nil))))))))))⟩
  have cm : CM K C0 := ⟨⟨cp0, cd0_, co0, cs0⟩, cf0_0, cf0_1⟩
  have FI2 := qcn (st := qde) RlI2 RcI2 RkI2
  have F0 : FnAt K mg "is_whole" yb0 ["thing"] := yap X G a0 l0 c0 k0 fun _ _ _ _ _ _ us hl => match us, hl with | [_], _ => rfl
  have F1 : FnAt K mg "is_bit" qco ["thing"] := yap X G a1 l1 c1 k1 fun _ _ _ _ _ _ us hl => match us, hl with | [_], _ => rfl
  have F2 : FnAt K mg "is_one_of" qbn ["thing", "words"] := yap X G a2 l2 c2 k2 fun _ _ _ _ _ _ us hl => match us, hl with | [_, _], _ => rfl
  have F3 : FnAt K mg "is_cell" yb9 ["thing"] := yap X G a3 l3 c3 k3 fun _ _ _ _ _ _ us hl => match us, hl with | [_], _ => rfl
  have F4 : FnAt K mg "is_part" qca ["name", "thing"] := yap X G a4 l4 c4 k4 fun _ _ _ _ _ _ us hl => match us, hl with | [_, _], _ => rfl
  have F5 : FnAt K mg "has_word" qb0 ["thing"] := yap X G a5 l5 c5 k5 fun _ _ _ _ _ _ us hl => match us, hl with | [_], _ => rfl
  have F6 : FnAt K mg "cells_in" qbz ["harm"] := yap X G a6 l6 c6 k6 fun _ _ _ _ _ _ us hl => match us, hl with | [_], _ => rfl
  have F7 : FnAt K mg "has_parts" ybn ["thing"] := yap X G a7 l7 c7 k7 fun _ _ _ _ _ _ us hl => match us, hl with | [_], _ => rfl
  have F8 : FnAt K mg "is_harm" qb9 ["thing"] := yap X G a8 l8 c8 k8 fun _ _ _ _ _ _ us hl => match us, hl with | [_], _ => rfl
  have F9 : FnAt K mg "look_at_harms" qa0 ["thing"] := yap X G a9 l9 c9 k9 fun _ _ _ _ _ _ us hl => match us, hl with | [_], _ => rfl
  have F10 : FnAt K mg "cells_of" ybz ["harms"] := yap X G a10 l10 c10 k10 fun _ _ _ _ _ _ us hl => match us, hl with | [_], _ => rfl
  have F11 : FnAt K mg "stuck_bit" ybx ["harms", "cell"] := yap X G a11 l11 c11 k11 fun _ _ _ _ _ _ us hl => match us, hl with | [_, _], _ => rfl
  have F12 : FnAt K mg "put" qij ["harms", "cells", "cell", "bit"] := yap X G a12 l12 c12 k12 fun _ _ _ _ _ _ us hl => match us, hl with | [_, _, _, _], _ => rfl
  have F13 : FnAt K mg "settle" qdg ["harms", "cells"] := yap X G a13 l13 c13 k13 fun _ _ _ _ _ _ us hl => match us, hl with | [_, _], _ => rfl
  have F14 : FnAt K mg "harm_of_address" yaz ["harms", "address"] := yap X G a14 l14 c14 k14 fun _ _ _ _ _ _ us hl => match us, hl with | [_, _], _ => rfl
  have F15 : FnAt K mg "reached_cells" qa8 ["harm", "address"] := yap X G a15 l15 c15 k15 fun _ _ _ _ _ _ us hl => match us, hl with | [_, _], _ => rfl
  have F16 : FnAt K mg "is_slow" qcm ["harms", "cells", "cell", "bit"] := yap X G a16 l16 c16 k16 fun _ _ _ _ _ _ us hl => match us, hl with | [_, _, _, _], _ => rfl
  have F17 : FnAt K mg "kept_bit" qb6 ["harms", "cells", "cell", "bit"] := yap X G a17 l17 c17 k17 fun _ _ _ _ _ _ us hl => match us, hl with | [_, _, _, _], _ => rfl
  have F18 : FnAt K mg "act_on_others" ya7 ["harms", "cells", "cell"] := yap X G a18 l18 c18 k18 fun _ _ _ _ _ _ us hl => match us, hl with | [_, _, _], _ => rfl
  have F19 : FnAt K mg "write_cell" qbo ["harms", "cells", "cell", "bit"] := yap X G a19 l19 c19 k19 fun _ _ _ _ _ _ us hl => match us, hl with | [_, _, _, _], _ => rfl
  have F20 : FnAt K mg "write_at" qb7 ["harms", "cells", "address", "bit"] := yap X G a20 l20 c20 k20 fun _ _ _ _ _ _ us hl => match us, hl with | [_, _, _, _], _ => rfl
  have F21 : FnAt K mg "is_size" ycb ["thing"] := yap X G a21 l21 c21 k21 fun _ _ _ _ _ _ us hl => match us, hl with | [_], _ => rfl
  have F22 : FnAt K mg "are_contents" qa5 ["thing", "size"] := yap X G a22 l22 c22 k22 fun _ _ _ _ _ _ us hl => match us, hl with | [_, _], _ => rfl
  have F23 : FnAt K mg "look_at_memory" qax ["size", "harms", "contents"] := yap X G a23 l23 c23 k23 fun _ _ _ _ _ _ us hl => match us, hl with | [_, _, _], _ => rfl
  have F24 : FnAt K mg "look_at_bit" ya9 ["thing"] := yap X G a24 l24 c24 k24 fun _ _ _ _ _ _ us hl => match us, hl with | [_], _ => rfl
  have F25 : FnAt K mg "_law_digits" qbh ["_law_cell", "_law_turn", "_law_sizes"] := yap X G a25 l25 c25 k25 fun _ _ _ _ _ _ us hl => match us, hl with | [_, _, _], _ => rfl
  have F26 : FnAt K mg "_law_harm" ybw ["_law_d", "_law_some"] := yap X G a26 l26 c26 k26 fun _ _ _ _ _ _ us hl => match us, hl with | [_, _], _ => rfl
  have F27 : FnAt K mg "_law_harms" ybp ["_law_cell", "_law_turn", "_law_size", "_law_most"] := yap X G a27 l27 c27 k27 fun _ _ _ _ _ _ us hl => match us, hl with | [_, _, _, _], _ => rfl
  have F28 : FnAt K mg "_law_kind" qby ["_law_e"] := yap X G a28 l28 c28 k28 fun _ _ _ _ _ _ us hl => match us, hl with | [_], _ => rfl
  have F29 : FnAt K mg "_law_made" qbx ["_law_size", "_law_harms_here", "_law_contents"] := yap X G a29 l29 c29 k29 fun _ _ _ _ _ _ us hl => match us, hl with | [_, _, _], _ => rfl
  have F30 : FnAt K mg "_law_asked" qbp ["_law_memory", "_law_way", "_law_address", "_law_bit"] := yap X G a30 l30 c30 k30 fun _ _ _ _ _ _ us hl => match us, hl with | [_, _, _, _], _ => rfl
  have F31 : FnAt K mg "_law_odd" yb6 ["_law_d", "_law_size", "_law_harms_here", "_law_contents"] := yap X G a31 l31 c31 k31 fun _ _ _ _ _ _ us hl => match us, hl with | [_, _, _, _], _ => rfl
  have F32 : FnAt K mg "_law_stays" ybo ["_law_memory", "_law_size", "_law_turn", "_law_at"] := yap X G a32 l32 c32 k32 fun _ _ _ _ _ _ us hl => match us, hl with | [_, _, _, _], _ => rfl
  have FL := qcn (st := ygh) l33 c33 k33
  refine ⟨PySem.W.fnOf "law" "law" (yaj ygh) (yag ygh) (yab ygh) .none kV33 dc33 pm33 an33 cd33 ct33, fun s v => .of_eq rfl, fun base _ _ => ?_⟩
  have M0___init__ : ycf K C0 "__init__" "Memory.__init__" qam ["self", "size", "harms", "contents"] := ⟨fm0_0, _, ⟨am0_0, im0_0, km0_0⟩, qcn (st := qam) lm0_0 cm0_0 km0_0, Fun.binds (qcn (st := qam) lm0_0 cm0_0 km0_0) fun _ _ _ _ _ _ us hl => match us, hl with | [_, _, _, _], _ => rfl⟩
  have M0_look_at_address : ycf K C0 "look_at_address" "Memory.look_at_address" qai ["self", "address"] := ⟨fm0_1, _, ⟨am0_1, im0_1, km0_1⟩, qcn (st := qai) lm0_1 cm0_1 km0_1, Fun.binds (qcn (st := qai) lm0_1 cm0_1 km0_1) fun _ _ _ _ _ _ us hl => match us, hl with | [_, _], _ => rfl⟩
  have M0_read : ycf K C0 "read" "Memory.read" ya4 ["self", "address"] := ⟨fm0_2, _, ⟨am0_2, im0_2, km0_2⟩, qcn (st := ya4) lm0_2 cm0_2 km0_2, Fun.binds (qcn (st := ya4) lm0_2 cm0_2 km0_2) fun _ _ _ _ _ _ us hl => match us, hl with | [_, _], _ => rfl⟩
  have M0_write : ycf K C0 "write" "Memory.write" qaq ["self", "address", "bit"] := ⟨fm0_3, _, ⟨am0_3, im0_3, km0_3⟩, qcn (st := qaq) lm0_3 cm0_3 km0_3, Fun.binds (qcn (st := qaq) lm0_3 cm0_3 km0_3) fun _ _ _ _ _ _ us hl => match us, hl with | [_, _, _], _ => rfl⟩
  have M0_holds : ycf K C0 "holds" "Memory.holds" qaz ["self"] := ⟨fm0_4, _, ⟨am0_4, im0_4, km0_4⟩, qcn (st := qaz) lm0_4 cm0_4 km0_4, Fun.binds (qcn (st := qaz) lm0_4 cm0_4 km0_4) fun _ _ _ _ _ _ us hl => match us, hl with | [_], _ => rfl⟩
  have h0 := qhg (P := l.prog) (w := w) (base := base) B F0
  have h1 := qkf h0 F1
  have h2 := yg1 (P := l.prog) (w := w) (base := base) B F2
  have h3 := yim g_MC h0 F3
  have h4 := qim g_J h3 h1 h2 F4
  have h5 := yhd (P := l.prog) (w := w) (base := base) B gP TP F5
  have h6 := yhh (P := l.prog) (w := w) (base := base) B yep gP TP F6
  have h7 := qg3 B yep yem gP TP h4 F7
  have h8 := yiw B qc0 h5 h7 h6 F8
  have h9 := qeo B qc0 g_MH g_MU h8 h6 F9
  have h10 := yhq B qc0 h9 h6 F10
  have h11 := qg9 (P := l.prog) (w := w) (base := base) F11
  have h12 := ok_put h11 F12
  have h13 := qkk B h11 h12 F13
  have h14 := qdu (P := l.prog) (w := w) (base := base) F14
  have h15 := qen (P := l.prog) (w := w) (base := base) F15
  have h16 := yio (P := l.prog) (w := w) (base := base) F16
  have h17 := yhw (P := l.prog) (w := w) (base := base) F17
  have h18 := yeo h12 F18
  have h19 := qgc h16 h12 h17 h18 F19
  have h20 := qhj h14 h15 h19 F20
  have h21 := qin g_MC h0 F21
  have h22 := yfe B yem h1 F22
  have h23 := yd9 B h10 h21 h22 F23
  have h24 := yfs h1 F24
  have yb4 := yi6 B cm h0 M0_look_at_address
  have yer := yil (P := l.prog) (w := w) (base := base) B cm M0_holds
  have hm_init := yjf B cm h23 h13 M0___init__
  have qfb := HasI.of (x := "Memory") (m := "Memory") (PySem.W.mg_of X G ca0) ⟨cm0_, am0_0, im0_0, ck0⟩ (fun g h => yjx am0_0 h) hm_init
  have xH := (show XInit l.prog w K mg base "NoHarms" R2 ["self", "number"] (sp_x1 R2 "number") from ⟨PySem.W.mg_of X G RA2, Rkp2, RX2, _, _, Rhi2, Rhf2, FI2.binds (fun _ _ _ _ _ _ us hl => match us, hl with | [_, _], _ => rfl), yj7 FI2 RX2 Rn2_0⟩)
  have gw := og_whole (P := l.prog) (w := w) (base := base) B F0
  have gb := og_bit gw F1
  have go := og_one (P := l.prog) (w := w) (base := base) B F2
  have gc := og_cell g_MC gw F3
  have gp := og_part g_J gc gb go F4
  have gwd := og_word (P := l.prog) (w := w) (base := base) B gP TP F5
  have gci := yhs (P := l.prog) (w := w) (base := base) B yep gP TP F6
  have gps := og_parts B yep yem gP TP gp F7
  have gh := og_harm B qc0 gwd gps gci F8
  have gl := og_harms B xH qc0 g_MH g_MU gh h6 F9
  have gco := yhv B qc0 gl h6 F10
  have gsz := og_size g_MC gw F21
  have gct := og_cont B yem gb F22
  have gmem := yj5 B xB3 gco gsz gct F23
  have glb := og_lbit xB5 gb F24
  have ga := yju B xB4 cm gw M0_look_at_address
  have brd := yjl cm ga M0_read
  have mw := mx_write cm yb4 ga h24 glb h20 M0_write
  have mi := mx_init B cm h23 h13 gmem M0___init__
  have hx := qj7.of (x := "Memory") (m := "Memory") (PySem.W.mg_of X G ca0) ⟨cm0_, am0_0, im0_0, ck0⟩ (fun g h => yjx am0_0 h) mi
  have h25 := qi4 (P := l.prog) (w := w) (base := base) B F25
  have h26 := ok_harm (P := l.prog) (w := w) (base := base) B F26
  have h27 := ok_harms B h25 h26 F27
  have h28 := ok_kind (P := l.prog) (w := w) (base := base) (c := (fun i => ([R0, R1, R2, R3, R4, R5, R6, R7, R8, R9, R10, R11, R12] : List Addr).getD i 0)) B hVE RG F28
  have h29 := og_made gm KX2 KX3 h28 hx F29
  have h30 := og_asked gm KX4 KX5 cm h28 brd mw F30
  have h31 := og_odd (P := l.prog) (w := w) (base := base) B F31
  have h32 := og_stays cm yer h30 B F32
  exact ok_law B h25 h27 h31 h29 h32 qfb FL
theorem walk {l : PySem.W.OpenLaw} {q : Program} {loose : List Str} {XP : (Str → Option Value) → Heap → Prop} {YP : World → Heap → Prop} {d : DefRec} {K : Params → PySem.W.Frag} (hn : l.most = some 63) (hdf : d.params.defaults = [])
    (hY : ∀ (w : World) (h : Heap), YP w h → (K w.params).In h)
    (F : ∀ (w : World) (mg : Str → Option Value) (fa : Addr) (h : Heap), (K w.params).In h → h.Ns mainGlobals mg → mg d.name = some (.ref fa) →
      ∃ fd : FuncData, (∀ (s : Shared) (u : Value), BindsTo s fd ⟨[u], []⟩ [("_law_script", u)]) ∧ ∀ base : Heap, (K w.params).In base → base.Ns mainGlobals mg → FnOk l.prog w (K w.params) mg base CX0 12 fa fd ["_law_script"] (qh5 (K w.params))) :
    PySem.W.WalkO q loose XP YP l.row.toRowW d [] (fun f vs => PySem.call f vs) :=
  L2.walk_of (n := 63) (k := 12) (x := "_law_script") (CX := fun _ => CX0) (sp := fun w => qh5 (K w.params)) hn (by decide) hdf ⟨rfl, by decide, by decide, rfl⟩ hY F (fun _ _ a ns hl _ hS => ⟨a, ns, rfl, hS, hl, fun _ => rfl⟩) fun _ _ _ _ _ z => z
end Mh
def PySem.W.Fast.tw16177519967689767685 : Nat := 0
def PySem.W.Fast.tw289722832427745540 : Nat := 0
def PySem.W.Fast.tw4121659858714857740 : Nat := 0
def PySem.W.Fast.tw11673310472104762455 : Nat := 0
def PySem.W.Fast.tw14328238922882928249 : Nat := 0
def PySem.W.Fast.tw3147524450939128624 : Nat := 0
def PySem.W.Fast.tw18366325615682818985 : Nat := 0
def PySem.W.Fast.tw14273674427235035617 := PySem.Challenge.pw_marchmend_k13_no_memories
theorem PySem.W.Fast.te14273674427235035617 : PySem.Challenge.pw_marchmend_k13_no_memories = PySem.W.Fast.tw14273674427235035617 := rfl
def PySem.W.Fast.tw7593979613202344966 : Nat := 0
def PySem.W.Fast.tw9819352645759533166 : Nat := 0
def PySem.W.Fast.tw15947885617857771831 : Nat := 0
def PySem.W.Fast.tw6897798446743563720 : Nat := 0
def PySem.W.Fast.tw10622207793681161703 : Nat := 0
def PySem.W.Fast.tw14233544302904896361 : Nat := 0
def PySem.W.Fast.tw14373957395222131941 : Nat := 0
def PySem.W.Fast.tw13463064852237895158 : Nat := 0
def PySem.W.Fast.tw7863331080607053265 : Nat := 0
def PySem.W.Fast.tw11955386513668427014 : Nat := 0
def PySem.W.Fast.tw10657302356250870551 : Nat := 0
def PySem.W.Fast.tw4199759803931086468 : Nat := 0
def PySem.W.Fast.tw9659341686577629423 : Nat := 0
def PySem.W.Fast.tw7668635036287263242 : Nat := 0
def PySem.W.Fast.tw16256156545563312812 : Nat := 0
def PySem.W.Fast.tw4941479431994617187 : Nat := 0
def PySem.W.Fast.tw4810194415893152532 : Nat := 0
def PySem.W.Fast.tw5495645776895930774 : Nat := 0
def PySem.W.Fast.tw15610653064932518271 : Nat := 0
def PySem.W.Fast.tw986873446280337639 : Nat := 0
def PySem.W.Fast.tw10804209891539460172 : Nat := 0
def PySem.W.Fast.tw11123114400437512667 : Nat := 0
def PySem.W.Fast.tw3663263373759881170 : Nat := 0
def PySem.W.Fast.tw4301933458337659898 : Nat := 0
def PySem.W.Fast.tw9853749656505375577 : Nat := 0
def PySem.W.Fast.tw4596735754619686958 : Nat := 0
def PySem.W.Fast.tw4690008189352280719 : Nat := 0
def PySem.W.Fast.tw5593992416008412702 : Nat := 0
def PySem.W.Fast.tw9313485182952109364 : Nat := 0
def PySem.W.Fast.tw1288876729166916446 : Nat := 0
def PySem.W.Fast.tw9984950571874531408 : Nat := 0
def PySem.W.Fast.tw10461130061641841636 : Nat := 0
def PySem.W.Fast.tw6845589480032101173 : Nat := 0
def PySem.W.Fast.tw5466167514942482579 : Nat := 0
def PySem.W.Fast.tw11926159731806377802 : Nat := 0
def PySem.W.Fast.tw12655794200570419470 : Nat := 0
def PySem.W.Fast.tw15223575235323795074 : Nat := 0
def PySem.W.Fast.tw2636304344301832653 : Nat := 0
def PySem.W.Fast.tw2225822743448826107 : Nat := 0
def PySem.W.Fast.tw14718438081227737098 : Nat := 0
def PySem.W.Fast.tw13216994339710205660 : Nat := 0
def PySem.W.Fast.tw14406053296255603550 : Nat := 0
def PySem.W.Fast.tw9733379509359196185 : Nat := 0
def PySem.W.Fast.tw13591309662476657488 : Nat := 0
def PySem.W.Fast.tw15392819597282211598 : Nat := 0
def PySem.W.Fast.tw3795543166018666779 : Nat := 0
def PySem.W.Fast.tw5797250157279628405 : Nat := 0
def PySem.W.Fast.tw10579399738686923576 : Nat := 0
def PySem.W.Fast.tw18247715218209906443 : Nat := 0
def PySem.W.Fast.tw10663624194641944836 : Nat := 0
def PySem.W.Fast.tw15764807641444000146 : Nat := 0
def PySem.W.Fast.tw15876653554515905649 : Nat := 0
def PySem.W.Fast.tw1571355963653224552 : Nat := 0
def PySem.W.Fast.tw9730615484559893267 : Nat := 0
def PySem.W.Fast.tw12898709210635329824 : Nat := 0
def PySem.W.Fast.tw28805194775851860 : Nat := 0
def PySem.W.Fast.tw18082295282218060507 : Nat := 0
def PySem.W.Fast.tw9147424245388243836 : Nat := 0
def PySem.W.Fast.tw832386299456592624 : Nat := 0
def PySem.W.Fast.tw4508294660307290200 : Nat := 0
def PySem.W.Fast.tw15041971061313329914 : Nat := 0
def PySem.W.Fast.tw6106178144551610940 : Nat := 0
def PySem.W.Fast.tw10785456985613146994 : Nat := 0
def PySem.W.Fast.tw16415330453978934481 : Nat := 0
def PySem.W.Fast.tw15172124196351481283 : Nat := 0
def PySem.W.Fast.tw6945506043212474799 : Nat := 0
def PySem.W.Fast.tw16345551975429609546 : Nat := 0
def PySem.W.Fast.tw7408069190687435781 : Nat := 0
def PySem.W.Fast.tw2767164181849251795 : Nat := 0
def PySem.W.Fast.tw8775582307562541988 : Nat := 0
def PySem.W.Fast.tw14543634324708354650 : Nat := 0
def PySem.W.Fast.tw1778163598327063743 : Nat := 0
def PySem.W.Fast.tw10313993217931100000 : Nat := 0
def PySem.W.Fast.tw15550017642381937292 : Nat := 0
def PySem.W.Fast.tw9632146735569271811 : Nat := 0
def PySem.W.Fast.tw13517629924110354270 : Nat := 0
def PySem.W.Fast.tw9330259621577935965 : Nat := 0
def PySem.W.Fast.tw1883634950577911692 : Nat := 0
def PySem.W.Fast.tw8236779580429057549 : Nat := 0
def PySem.W.Fast.tw16533106065194954388 : Nat := 0
def PySem.W.Fast.tw15312269016364201702 : Nat := 0
def PySem.W.Fast.tw2487001248491869410 : Nat := 0
def PySem.W.Fast.tw11278404451521795165 : Nat := 0
def PySem.W.Fast.tw8676465596424362250 : Nat := 0
def PySem.W.Fast.tw10696138829872604217 : Nat := 0
def PySem.W.Fast.tw14052207866362178660 : Nat := 0
def PySem.W.Fast.tw14988096036666918034 : Nat := 0
def PySem.W.Fast.tw4530926831415328524 : Nat := 0
def PySem.W.Fast.tw5785837349154584137 : Nat := 0
def PySem.W.Fast.tw431747450984702375 : Nat := 0
def PySem.W.Fast.tw5312698390864651129 : Nat := 0
def PySem.W.Fast.tw16698925629606530985 : Nat := 0
def PySem.W.Fast.tw11592321501685917009 : Nat := 0
def PySem.W.Fast.tw13956808960590678678 : Nat := 0
def PySem.W.Fast.tw10879496658176578985 : Nat := 0
def PySem.W.Fast.tw4819013561270254832 : Nat := 0
def PySem.W.Fast.tw12940579892740546426 : Nat := 0
def PySem.W.Fast.tw15626208724378567876 : Nat := 0
def PySem.W.Fast.tw16959650202306984453 : Nat := 0
def PySem.W.Fast.tw8592244063359809125 : Nat := 0
def PySem.W.Fast.tw6548288176704301549 : Nat := 0
def PySem.W.Fast.tw3525444705514231267 : Nat := 0
def PySem.W.Fast.tw3929347335244168826 : Nat := 0
def PySem.W.Fast.tw1568874008074197148 : Nat := 0
def PySem.W.Fast.tw5107521451285313152 : Nat := 0
def PySem.W.Fast.tw8623723268967666027 : Nat := 0
def PySem.W.Fast.tw1483880988706664799 : Nat := 0
open PySem PySem.W PyProof.Rows
set_option maxRecDepth 100000 in
set_option maxHeartbeats 0 in
theorem PySem.Challenge.cw_marchmend_k13_no_memories_holds : PySem.Challenge.rw_marchmend_k13_no_memories.Holds := by
  w_on; o_law; k_head; (case hw => w_witness2)
  k_fill
  refine Mh.walk (l := PySem.Challenge.rw_marchmend_k13_no_memories) rfl rfl (fun w h Y => PySem.W.kIn_of Y) ?F
  case F =>
    intro w mg fa h KX G hmg
    refine' Mh.all_mk KX G hmg ?a0 ?l0 ?c0 ?k0 ?a1 ?l1 ?c1 ?k1 ?a2 ?l2 ?c2 ?k2 ?a3 ?l3 ?c3 ?k3 ?a4 ?l4 ?c4 ?k4 ?a5 ?l5 ?c5 ?k5 ?a6 ?l6 ?c6 ?k6 ?a7 ?l7 ?c7 ?k7 ?a8 ?l8 ?c8 ?k8 ?a9 ?l9 ?c9 ?k9 ?a10 ?l10 ?c10 ?k10 ?a11 ?l11 ?c11 ?k11 ?a12 ?l12 ?c12 ?k12 ?a13 ?l13 ?c13 ?k13 ?a14 ?l14 ?c14 ?k14 ?a15 ?l15 ?c15 ?k15 ?a16 ?l16 ?c16 ?k16 ?a17 ?l17 ?c17 ?k17 ?a18 ?l18 ?c18 ?k18 ?a19 ?l19 ?c19 ?k19 ?a20 ?l20 ?c20 ?k20 ?a21 ?l21 ?c21 ?k21 ?a22 ?l22 ?c22 ?k22 ?a23 ?l23 ?c23 ?k23 ?a24 ?l24 ?c24 ?k24 ?a25 ?l25 ?c25 ?k25 ?a26 ?l26 ?c26 ?k26 ?a27 ?l27 ?c27 ?k27 ?a28 ?l28 ?c28 ?k28 ?a29 ?l29 ?c29 ?k29 ?a30 ?l30 ?c30 ?k30 ?a31 ?l31 ?c31 ?k31 ?a32 ?l32 ?c32 ?k32 ?a33 ?l33 ?c33 ?k33 ?z0 ?z1 ?z2 ?z3 ?z4 ?z5 ?z6 ?z7 ?z8 ?z9 ?z10 ?z11 ?z12 ?z13 ?z14 ?z15 ?RA0 ?RA1 ?RA2 ?RA3 ?RA4 ?RA5 ?RA6 ?RA7 ?RA8 ?RA9 ?RA10 ?RA11 ?RA12 ?RM_ ?Rlk2 ?Rq2 ?Rlk3 ?Rq3 ?Rex3 ?Rlk4 ?Rq4 ?Rex4 ?Rlk5 ?Rq5 ?Rex5 ?Rkp2 ?Rga2 ?Rgh2 ?Rha2 ?Rhm2 ?Rsa2 ?Ro0_2 ?Ro1_2 ?Ro2_2 ?Ro3_2 ?Ro4_2 ?Ro5_2 ?Ro6_2 ?Ro7_2 ?Ro8_2 ?Ro9_2 ?Ro10_2 ?Ro11_2 ?Ro12_2 ?Rve2 ?Rem2 ?Rn2_0 ?Rhi2 ?Rhf2 ?RlI2 ?RcI2 ?RkI2 ?Rkp3 ?Rga3 ?Rgh3 ?Rha3 ?Rhm3 ?Rsa3 ?Ro0_3 ?Ro1_3 ?Ro2_3 ?Ro3_3 ?Ro4_3 ?Ro5_3 ?Ro6_3 ?Ro7_3 ?Ro8_3 ?Ro9_3 ?Ro10_3 ?Ro11_3 ?Ro12_3 ?Rve3 ?Rem3 ?Rkp4 ?Rga4 ?Rgh4 ?Rha4 ?Rhm4 ?Rsa4 ?Ro0_4 ?Ro1_4 ?Ro2_4 ?Ro3_4 ?Ro4_4 ?Ro5_4 ?Ro6_4 ?Ro7_4 ?Ro8_4 ?Ro9_4 ?Ro10_4 ?Ro11_4 ?Ro12_4 ?Rve4 ?Rem4 ?Rkp5 ?Rga5 ?Rgh5 ?Rha5 ?Rhm5 ?Rsa5 ?Ro0_5 ?Ro1_5 ?Ro2_5 ?Ro3_5 ?Ro4_5 ?Ro5_5 ?Ro6_5 ?Ro7_5 ?Ro8_5 ?Ro9_5 ?Ro10_5 ?Ro11_5 ?Ro12_5 ?Rve5 ?Rem5 ?Rhn ?Rtk ?RzV ?zset ?zzip ?zall ?aMC ?aMH ?aMU ?aJ ?lJ ?aP ?lP ?mP ?tp0 ?tp1 ?tp2 ?tp3 ?tp4 ?tp5 ?tp6 ?tp7 ?tp8 ?tp9 ?ca0 ?cp0 ?cd0_ ?co0 ?cs0 ?cf0_0 ?cf0_1 ?cm0_ ?ck0 ?am0_0 ?lm0_0 ?cm0_0 ?im0_0 ?km0_0 ?am0_1 ?lm0_1 ?cm0_1 ?im0_1 ?km0_1 ?am0_2 ?lm0_2 ?cm0_2 ?im0_2 ?km0_2 ?am0_3 ?lm0_3 ?cm0_3 ?im0_3 ?km0_3 ?am0_4 ?lm0_4 ?cm0_4 ?im0_4 ?km0_4
    (case a0 => k_is)
    (case l0 => k_is)
    (case c0 => k_is)
    (case k0 => k_is)
    (case a1 => k_is)
    (case l1 => k_is)
    (case c1 => k_is)
    (case k1 => k_is)
    (case a2 => k_is)
    (case l2 => k_is)
    (case c2 => k_is)
    (case k2 => k_is)
    (case a3 => k_is)
    (case l3 => k_is)
    (case c3 => k_is)
    (case k3 => k_is)
    (case a4 => k_is)
    (case l4 => k_is)
    (case c4 => k_is)
    (case k4 => k_is)
    (case a5 => k_is)
    (case l5 => k_is)
    (case c5 => k_is)
    (case k5 => k_is)
    (case a6 => k_is)
    (case l6 => k_is)
    (case c6 => k_is)
    (case k6 => k_is)
    (case a7 => k_is)
    (case l7 => k_is)
    (case c7 => k_is)
    (case k7 => k_is)
    (case a8 => k_is)
    (case l8 => k_is)
    (case c8 => k_is)
    (case k8 => k_is)
    (case a9 => k_is)
    (case l9 => k_is)
    (case c9 => k_is)
    (case k9 => k_is)
    (case a10 => k_is)
    (case l10 => k_is)
    (case c10 => k_is)
    (case k10 => k_is)
    (case a11 => k_is)
    (case l11 => k_is)
    (case c11 => k_is)
    (case k11 => k_is)
    (case a12 => k_is)
    (case l12 => k_is)
    (case c12 => k_is)
    (case k12 => k_is)
    (case a13 => k_is)
    (case l13 => k_is)
    (case c13 => k_is)
    (case k13 => k_is)
    (case a14 => k_is)
    (case l14 => k_is)
    (case c14 => k_is)
    (case k14 => k_is)
    (case a15 => k_is)
    (case l15 => k_is)
    (case c15 => k_is)
    (case k15 => k_is)
    (case a16 => k_is)
    (case l16 => k_is)
    (case c16 => k_is)
    (case k16 => k_is)
    (case a17 => k_is)
    (case l17 => k_is)
    (case c17 => k_is)
    (case k17 => k_is)
    (case a18 => k_is)
    (case l18 => k_is)
    (case c18 => k_is)
    (case k18 => k_is)
    (case a19 => k_is)
    (case l19 => k_is)
    (case c19 => k_is)
    (case k19 => k_is)
    (case a20 => k_is)
    (case l20 => k_is)
    (case c20 => k_is)
    (case k20 => k_is)
    (case a21 => k_is)
    (case l21 => k_is)
    (case c21 => k_is)
    (case k21 => k_is)
    (case a22 => k_is)
    (case l22 => k_is)
    (case c22 => k_is)
    (case k22 => k_is)
    (case a23 => k_is)
    (case l23 => k_is)
    (case c23 => k_is)
    (case k23 => k_is)
    (case a24 => k_is)
    (case l24 => k_is)
    (case c24 => k_is)
    (case k24 => k_is)
    (case a25 => k_is)
    (case l25 => k_is)
    (case c25 => k_is)
    (case k25 => k_is)
    (case a26 => k_is)
    (case l26 => k_is)
    (case c26 => k_is)
    (case k26 => k_is)
    (case a27 => k_is)
    (case l27 => k_is)
    (case c27 => k_is)
    (case k27 => k_is)
    (case a28 => k_is)
    (case l28 => k_is)
    (case c28 => k_is)
    (case k28 => k_is)
    (case a29 => k_is)
    (case l29 => k_is)
    (case c29 => k_is)
    (case k29 => k_is)
    (case a30 => k_is)
    (case l30 => k_is)
    (case c30 => k_is)
    (case k30 => k_is)
    (case a31 => k_is)
    (case l31 => k_is)
    (case c31 => k_is)
    (case k31 => k_is)
    (case a32 => k_is)
    (case l32 => k_is)
    (case c32 => k_is)
    (case k32 => k_is)
    (case a33 => k_is)
    (case l33 => k_is)
    (case c33 => k_is)
    (case k33 => k_is)
    (case z0 => k_is)
    (case z1 => k_is)
    (case z2 => k_is)
    (case z3 => k_is)
    (case z4 => k_is)
    (case z5 => k_is)
    (case z6 => k_is)
    (case z7 => k_is)
    (case z8 => k_is)
    (case z9 => k_is)
    (case z10 => k_is)
    (case z11 => k_is)
    (case z12 => k_is)
    (case z13 => k_is)
    (case z14 => k_is)
    (case z15 => k_is)
    (case RA0 => k_is)
    (case RA1 => k_is)
    (case RA2 => k_is)
    (case RA3 => k_is)
    (case RA4 => k_is)
    (case RA5 => k_is)
    (case RA6 => k_is)
    (case RA7 => k_is)
    (case RA8 => k_is)
    (case RA9 => k_is)
    (case RA10 => k_is)
    (case RA11 => k_is)
    (case RA12 => k_is)
    (case RM_ => k_is)
    (case Rlk2 => k_is)
    (case Rq2 => rfl)
    (case Rlk3 => k_is)
    (case Rq3 => rfl)
    (case Rex3 => k_exc)
    (case Rlk4 => k_is)
    (case Rq4 => rfl)
    (case Rex4 => k_exc)
    (case Rlk5 => k_is)
    (case Rq5 => rfl)
    (case Rex5 => k_exc)
    (case Rkp2 => k_is)
    (case Rga2 => k_is)
    (case Rgh2 => k_is)
    (case Rha2 => k_is)
    (case Rhm2 => k_is)
    (case Rsa2 => k_is)
    (case Ro0_2 => kit_is)
    (case Ro1_2 => kit_is)
    (case Ro2_2 => kit_is)
    (case Ro3_2 => kit_is)
    (case Ro4_2 => kit_is)
    (case Ro5_2 => kit_is)
    (case Ro6_2 => kit_is)
    (case Ro7_2 => kit_is)
    (case Ro8_2 => kit_is)
    (case Ro9_2 => kit_is)
    (case Ro10_2 => kit_is)
    (case Ro11_2 => kit_is)
    (case Ro12_2 => kit_is)
    (case Rve2 => kit_is)
    (case Rem2 => kts_exm)
    (case Rn2_0 => k_is)
    (case Rhi2 => k_is)
    (case Rhf2 => k_is)
    (case RlI2 => k_is)
    (case RcI2 => k_is)
    (case RkI2 => k_is)
    (case Rkp3 => k_is)
    (case Rga3 => k_is)
    (case Rgh3 => k_is)
    (case Rha3 => k_is)
    (case Rhm3 => k_is)
    (case Rsa3 => k_is)
    (case Ro0_3 => kit_is)
    (case Ro1_3 => kit_is)
    (case Ro2_3 => kit_is)
    (case Ro3_3 => kit_is)
    (case Ro4_3 => kit_is)
    (case Ro5_3 => kit_is)
    (case Ro6_3 => kit_is)
    (case Ro7_3 => kit_is)
    (case Ro8_3 => kit_is)
    (case Ro9_3 => kit_is)
    (case Ro10_3 => kit_is)
    (case Ro11_3 => kit_is)
    (case Ro12_3 => kit_is)
    (case Rve3 => kit_is)
    (case Rem3 => kts_exm)
    (case Rkp4 => k_is)
    (case Rga4 => k_is)
    (case Rgh4 => k_is)
    (case Rha4 => k_is)
    (case Rhm4 => k_is)
    (case Rsa4 => k_is)
    (case Ro0_4 => kit_is)
    (case Ro1_4 => kit_is)
    (case Ro2_4 => kit_is)
    (case Ro3_4 => kit_is)
    (case Ro4_4 => kit_is)
    (case Ro5_4 => kit_is)
    (case Ro6_4 => kit_is)
    (case Ro7_4 => kit_is)
    (case Ro8_4 => kit_is)
    (case Ro9_4 => kit_is)
    (case Ro10_4 => kit_is)
    (case Ro11_4 => kit_is)
    (case Ro12_4 => kit_is)
    (case Rve4 => kit_is)
    (case Rem4 => kts_exm)
    (case Rkp5 => k_is)
    (case Rga5 => k_is)
    (case Rgh5 => k_is)
    (case Rha5 => k_is)
    (case Rhm5 => k_is)
    (case Rsa5 => k_is)
    (case Ro0_5 => kit_is)
    (case Ro1_5 => kit_is)
    (case Ro2_5 => kit_is)
    (case Ro3_5 => kit_is)
    (case Ro4_5 => kit_is)
    (case Ro5_5 => kit_is)
    (case Ro6_5 => kit_is)
    (case Ro7_5 => kit_is)
    (case Ro8_5 => kit_is)
    (case Ro9_5 => kit_is)
    (case Ro10_5 => kit_is)
    (case Ro11_5 => kit_is)
    (case Ro12_5 => kit_is)
    (case Rve5 => kit_is)
    (case Rem5 => kts_exm)
    (case Rhn => k_is)
    (case Rtk => k_is)
    (case RzV => k_is)
    (case zset => k_is)
    (case zzip => k_is)
    (case zall => k_is)
    (case aMC => k_is)
    (case aMH => k_is)
    (case aMU => k_is)
    (case aJ => k_is)
    (case lJ => k_is)
    (case aP => k_is)
    (case lP => k_is)
    (case mP => rfl)
    (case tp0 => k_is)
    (case tp1 => k_is)
    (case tp2 => k_is)
    (case tp3 => k_is)
    (case tp4 => k_is)
    (case tp5 => k_is)
    (case tp6 => k_is)
    (case tp7 => k_is)
    (case tp8 => k_is)
    (case tp9 => k_is)
    (case ca0 => k_is)
    (case cp0 => k_is)
    (case cd0_ => k_is)
    (case co0 => k_is)
    (case cs0 => k_is)
    (case cf0_0 => k_is)
    (case cf0_1 => k_is)
    (case cm0_ => k_is)
    (case ck0 => k_is)
    (case am0_0 => k_is)
    (case lm0_0 => k_is)
    (case cm0_0 => k_is)
    (case im0_0 => k_is)
    (case km0_0 => k_is)
    (case am0_1 => k_is)
    (case lm0_1 => k_is)
    (case cm0_1 => k_is)
    (case im0_1 => k_is)
    (case km0_1 => k_is)
    (case am0_2 => k_is)
    (case lm0_2 => k_is)
    (case cm0_2 => k_is)
    (case im0_2 => k_is)
    (case km0_2 => k_is)
    (case am0_3 => k_is)
    (case lm0_3 => k_is)
    (case cm0_3 => k_is)
    (case im0_3 => k_is)
    (case km0_3 => k_is)
    (case am0_4 => k_is)
    (case lm0_4 => k_is)
    (case cm0_4 => k_is)
    (case im0_4 => k_is)
    (case km0_4 => k_is)
#print axioms PySem.Challenge.cw_marchmend_k13_no_memories_holds
