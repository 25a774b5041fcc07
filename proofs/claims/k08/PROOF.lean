import PyProof.Rows.All
import Wide.All
import OpenK.AllK
import Wide.FinOn
import Lean
import PyProof.EqAt
import PyProof.EqKinds
import PyProof.TupleCall
import PyProof.StrLawsTight
import PyProof.Rows.StrJoin2
import PyProof.Rows.StrSplitJoin
import KE.KTab
import PyProof.ZipIter
import PyProof.Rows.TupIter
import PyProof.Rows.SortWalk
import PyProof.Rows.SortStr
import PyProof.ConsumeWalk
import KE.KRevSl
import KE.KTryMore
import PyProof.NsDelKeeps
import PyProof.NeKinds
import KE.KIntText
import PyProof.SetKind
import PyProof.SetRoads
import PyProof.Rows.SetFrom
import PyProof.CollectWalk
import PyProof.CollectIter
import PyProof.Rows.SortShell
import PyProof.Rows.MinMaxN
import PySem.Challenge.RW_marchmend_k08_little_and_placed
set_option Elab.async false
set_option linter.all false
set_option maxRecDepth 100000
namespace L2
open PySem PySem.Spec PyProof.Rows

/-- a key: an int or a str -/
abbrev Key := Sum Int Str
def keyIs : Key → Value → Bool
  | .inl k, v => Value.isInt k v
  | .inr x, v => Value.isStrOf x v
def keyH (w : World) : Key → Int
  | .inl k => hashInt k
  | .inr x => hashStr w x
theorem keyIs_shape : ∀ {k : Key} {v : Value}, keyIs k v = true → (∃ i t, k = Sum.inl i ∧ v = Value.int i t) ∨ (∃ x t, k = Sum.inr x ∧ v = Value.str x t)
  | .inl i, v, h => by
    obtain ⟨t, e⟩ := Value.isInt_shape (k := i) (v := v) h
    exact .inl ⟨i, t, rfl, e⟩
  | .inr x, v, h => by
    obtain ⟨t, e⟩ := Value.isStrOf_shape (x := x) (v := v) h
    exact .inr ⟨x, t, rfl, e⟩
theorem keyIs_int (i : Int) (t : Tok) : keyIs (.inl i) (.int i t) = true := by simp [keyIs, Value.isInt]
theorem keyIs_str (x : Str) (t : Tok) : keyIs (.inr x) (.str x t) = true := by simp [keyIs, Value.isStrOf]
theorem key_ll (a b : Int) : decide ((Sum.inl a : Key) = Sum.inl b) = (a == b) := by
  by_cases e : a = b
  · subst e; simp
  · have h : ¬ (Sum.inl a : Key) = Sum.inl b := fun q => e (Sum.inl.inj q)
    rw [decide_eq_false h]
    exact (beq_eq_false_iff_ne.mpr e).symm
theorem key_rr (a b : Str) : decide ((Sum.inr a : Key) = Sum.inr b) = decide (a = b) := by
  by_cases e : a = b
  · subst e; simp
  · have h : ¬ (Sum.inr a : Key) = Sum.inr b := fun q => e (Sum.inr.inj q)
    rw [decide_eq_false h, decide_eq_false e]
theorem key_lr (a : Int) (b : Str) : decide ((Sum.inl a : Key) = Sum.inr b) = false := decide_eq_false (fun q => nomatch q)
theorem key_rl (a : Str) (b : Int) : decide ((Sum.inr a : Key) = Sum.inl b) = false := decide_eq_false (fun q => nomatch q)

def mixKind (prog : Program) (w : World) : PySem.KeyKind prog w Key where
  is := keyIs
  hash := keyH w
  inj := fun v a b ha hb => by
    rcases keyIs_shape ha with ⟨i, t, rfl, rfl⟩ | ⟨x, t, rfl, rfl⟩
    · rcases keyIs_shape hb with ⟨j, u, rfl, e⟩ | ⟨y, u, rfl, e⟩
      · injection e with e1 _; rw [e1]
      · exact nomatch e
    · rcases keyIs_shape hb with ⟨j, u, rfl, e⟩ | ⟨y, u, rfl, e⟩
      · exact nomatch e
      · injection e with e1 _; rw [e1]
  byValue := fun k v h => by
    rcases keyIs_shape h with ⟨i, t, rfl, rfl⟩ | ⟨x, t, rfl, rfl⟩ <;> rfl
  pyHash := fun hv h => by
    rcases keyIs_shape hv with ⟨i, t, rfl, rfl⟩ | ⟨x, t, rfl, rfl⟩
    · exact wpAny_pyHash_int h
    · exact wpAny_pyHash_str h
  eqBool := fun hu hv h => by
    rcases keyIs_shape hu with ⟨i, t, rfl, rfl⟩ | ⟨x, t, rfl, rfl⟩
    · rcases keyIs_shape hv with ⟨j, u, rfl, rfl⟩ | ⟨y, u, rfl, rfl⟩
      · rw [key_ll] at h; exact wpAny_eqBool_int h
      · rw [key_lr] at h; exact SeqAt.EqAt.int_str i t y u _ _ _ _ h
    · rcases keyIs_shape hv with ⟨j, u, rfl, rfl⟩ | ⟨y, u, rfl, rfl⟩
      · rw [key_rl] at h; exact SeqAt.EqAt.str_int x t j u _ _ _ _ h
      · rw [key_rr] at h; exact wpAny_eqBool_str h
  «strs» := fun k x t v h => by
    rcases keyIs_shape h with ⟨i, u, rfl, e⟩ | ⟨y, u, rfl, e⟩
    · exact nomatch e
    · injection e with e1 _
      subst e1
      cases v <;> rfl

theorem mixKind_int (prog : Program) (w : World) (i : Int) (t : Tok) : (mixKind prog w).is (.inl i) (.int i t) = true := keyIs_int i t
theorem mixKind_str (prog : Program) (w : World) (x : Str) (t : Tok) : (mixKind prog w).is (.inr x) (.str x t) = true := keyIs_str x t
end L2

namespace L2
open PySem PySem.Spec PyProof.Rows

/-- a value, without the heap -/
inductive V where
  | non | bl (b : Bool) | int (i : Int) | str (x : Str) | byt (b : Array UInt8) | flt (b : UInt64) | ref (a : Addr) | ty (n : String)
  deriving DecidableEq

def RelV : V → Value → Prop
  | .non, u => u = Value.none
  | .bl b, u => u = Value.bool b
  | .int i, u => ∃ t, u = Value.int i t
  | .str x, u => ∃ t, u = Value.str x t
  | .byt b, u => ∃ t, u = Value.bytes b t
  | .flt b, u => ∃ t, u = Value.float b t
  | .ref a, u => u = Value.ref a
  | .ty n, u => u = Value.type n

abbrev Vals : List V → List Value → Prop := Paired RelV
theorem Vals.length {xs : List V} {us : List Value} (r : Vals xs us) : xs.length = us.length := Paired.length r
theorem Vals.get : ∀ {xs : List V} {us : List Value} {i : Nat} {x : V}, Vals xs us → xs[i]? = some x → ∃ u, us[i]? = some u ∧ RelV x u
  | _, _, _, _, .nil, e => by simp at e
  | _, _, 0, _, .cons r _, e => by simp at e; subst e; exact ⟨_, rfl, r⟩
  | _, _, i + 1, x, .cons _ t, e => by
    obtain ⟨u, h1, h2⟩ := Vals.get (i := i) (x := x) t (by simpa using e)
    exact ⟨u, by simpa using h1, h2⟩
theorem Vals.append : ∀ {xs ys : List V} {us ws : List Value}, Vals xs us → Vals ys ws → Vals (xs ++ ys) (us ++ ws)
  | _, _, _, _, .nil, s => s
  | _, _, _, _, .cons r t, s => .cons r (Vals.append t s)
theorem Vals.take : ∀ {xs : List V} {us : List Value} (n : Nat), Vals xs us → Vals (xs.take n) (us.take n)
  | _, _, 0, _ => .nil
  | _, _, _ + 1, .nil => .nil
  | _, _, n + 1, .cons r t => .cons r (Vals.take n t)
theorem Vals.drop : ∀ {xs : List V} {us : List Value} (n : Nat), Vals xs us → Vals (xs.drop n) (us.drop n)
  | _, _, 0, r => r
  | _, _, _ + 1, .nil => .nil
  | _, _, n + 1, .cons _ t => Vals.drop n t
def RelO : Option V → Option Value → Prop
  | some v, some u => RelV v u
  | none, none => True
  | _, _ => False
def KV {κ : Type} : List (κ × V) → List (κ × Value) → Prop := Paired fun (p : κ × V) (q : κ × Value) => p.1 = q.1 ∧ RelV p.2 q.2

/-- a key of a dict (00_mix): an int or a text -/
def kV : Key → V
  | .inl i => .int i
  | .inr x => .str x

/-- what stands at a tracked address -/
inductive HO where
  /-- a list -/
  | lst (xs : List V)
  /-- a tuple (never changes) -/
  | tup (xs : List V)
  /-- a dict whose keys are ints and texts; one whose keys are tuples of ints and texts (the empty one is both) -/
  | dK (kvs : List (Key × V)) | dT (kvs : List (List Key × V))
  /-- a set of ints: its members, its size -/
  | set (S : Int → Bool) (n : Nat)
  /-- an instance of the class at C, its dict at dx, its attributes -/
  | ins (C dx : Addr) (fs : List (Str × V))
  /-- the dict of the instance at x -/
  | own (x : Addr)
  /-- the dict of an exception -/
  | xd (fs : List (Str × V))
  /-- a bound method, f of x -/
  | met (f x : Addr)
  /-- a range object lo, lo + 1, .. below hi -/
  | rng (lo hi : Int)
  /-- a thing that is known to the object (the script; a dict while a loop walks it): read, never written while it is so -/
  | frz (o : Obj) (u : HO)
  /-- a code object's table -/
  | tbl (ps : Array Value)
  /-- any other thing, by what is true of its one object (a def of one's own: SetO a S n := HO.ext fun h => ..) -/
  | ext (φ : Heap → Prop)

abbrev Hp := Addr → Option HO
def upd (H : Hp) (a : Addr) (o : HO) : Hp := fun b => if b = a then some o else H b
theorem upd_same {H : Hp} {a : Addr} {o : HO} : upd H a o a = some o := by unfold upd; rw [if_pos rfl]
theorem upd_ne {H : Hp} {a b : Addr} {o : HO} (h : b ≠ a) : upd H a o b = H b := by unfold upd; rw [if_neg h]
theorem ne_of_none {H : Hp} {a b : Addr} {o : HO} (h : H a = some o) (h' : H b = none) : a ≠ b := by
  intro e; subst e; rw [h] at h'; cases h'

section
variable (P : Program) (w : World)
def ObjOk (H : Hp) (h : Heap) (a : Addr) : HO → Prop
  | .lst xs => xs.length ≤ sizeLine ∧ ∃ (its : List Value) (n : Nat), Vals xs its ∧ h.get? a = some { cls := .type "list", data := .seq its.toArray n }
  | .tup xs => xs.length ≤ sizeLine ∧ ∃ its : List Value, Vals xs its ∧ IsTup h a its.toArray
  | .dK kvs => kvs.length ≤ sizeLine ∧ (a == sysModules) = false ∧ ∃ vs, KV kvs vs ∧ h.DictOf (mixKind P w) a vs
  | .dT kvs => kvs.length ≤ sizeLine ∧ (a == sysModules) = false ∧ ∃ xs : List (List Key × Addr × Value),
      Paired (fun (p : List Key × V) (q : List Key × Addr × Value) => p.1 = q.1 ∧ H q.2.1 = some (.tup (p.1.map kV)) ∧ RelV p.2 q.2.2) kvs xs ∧
      ∃ o es ep, h.get? a = some o ∧ o.ExactDict ∧ o.data = .dict es ep ∧ es.toList = xs.map (entryOfKey (tupleKind (mixKind P w))) ∧ (xs.map (·.1)).Nodup
  | .set S n => h.SetOf (intKind P w) a S n
  | .ins C dx fs => H dx = some (.own a) ∧ fs.length ≤ 1000 ∧ dx ≠ a ∧ h.get? a = some (PySem.W.instObj C dx) ∧
      ∃ mA, h.Ns1 dx mA ∧ (∀ f, RelO (fs.lookup f) (mA f)) ∧ PySem.Within mA (fs.map (·.1))
  | .own _ => ∃ o, h.get? a = some o
  | .xd fs => ∃ mA, h.Ns1 a mA ∧ ∀ f, RelO (fs.lookup f) (mA f)
  | .rng lo hi => ∃ t u v, h.get? a = some { cls := .type "range", data := .fields #[.int lo t, .int hi u, .int 1 v] }
  | .frz o u => h.get? a = some o ∧ ObjOk H h a u
  | .tbl ps => h.get? a = some { cls := .none, data := .fields ps }
  | .met f x => h.get? a = some (PySem.W.methodObj (.ref f) (.ref x))
  | .ext φ => φ h ∧ (∃ o, h.get? a = some o) ∧ ∀ h1 h2 : Heap, φ h1 → (∀ o, h1.get? a = some o → h2.get? a = some o) → φ h2
/-- the abstract heap is held -/
def HOk (H : Hp) (h : Heap) : Prop := ∀ a o, H a = some o → ObjOk P w H h a o
end

section
variable {P : Program} {w : World} {H H' : Hp} {h h' : Heap} {a : Addr} {o : HO}
theorem ObjOk.lt (x : ObjOk P w H h a o) : a < h.objs.size := by
  cases o with
  | lst xs => obtain ⟨_, _, _, _, e⟩ := x; exact Heap.lt_size e
  | tup xs => obtain ⟨_, _, _, p⟩ := x; exact p.lt
  | dK kvs => obtain ⟨_, _, _, _, o, _, _, e, _⟩ := x; exact Heap.lt_size e
  | dT kvs => obtain ⟨_, _, _, _, o, _, _, e, _⟩ := x; exact Heap.lt_size e
  | set S n => obtain ⟨o, _, _, _, e, _⟩ := x; exact Heap.lt_size e
  | ins C dx fs => obtain ⟨_, _, _, e, _⟩ := x; exact Heap.lt_size e
  | own y => obtain ⟨_, e⟩ := x; exact Heap.lt_size e
  | xd fs => obtain ⟨_, ⟨_, _, _, e, _⟩, _⟩ := x; exact Heap.lt_size e
  | rng lo hi => obtain ⟨_, _, _, e⟩ := x; exact Heap.lt_size e
  | frz ob u => obtain ⟨e, _⟩ := x; exact Heap.lt_size e
  | tbl ps => exact Heap.lt_size (show h.get? a = some _ from x)
  | met f y => exact Heap.lt_size (show h.get? a = some _ from x)
  | ext φ => obtain ⟨_, ⟨_, e⟩, _⟩ := x; exact Heap.lt_size e
theorem Paired.mapP {α β : Type} {F G : α → β → Prop} : ∀ {l₁ : List α} {l₂ : List β}, Paired F l₁ l₂ → (∀ a b, F a b → G a b) → Paired G l₁ l₂
  | _, _, .nil, _ => .nil
  | _, _, .cons r t, f => .cons (f _ _ r) (Paired.mapP t f)
/-- what an object's description leans on: its own object, its own dict, the tuples -/
theorem ObjOk.stay (x : ObjOk P w H h a o) (k : ∀ b u, (b = a ∨ H b = some (.own a)) → h.get? b = some u → h'.get? b = some u)
    (ho : ∀ b, H b = some (.own a) → H' b = some (.own a)) (ht : ∀ b xs, H b = some (.tup xs) → H' b = some (.tup xs)) : ObjOk P w H' h' a o := by
  induction o with
  | lst xs => obtain ⟨z, its, n, r, e⟩ := x; exact ⟨z, its, n, r, k _ _ (.inl rfl) e⟩
  | tup xs => obtain ⟨z, its, r, ob, e, c⟩ := x; exact ⟨z, its, r, ob, k _ _ (.inl rfl) e, c⟩
  | dK kvs => obtain ⟨z, y, vs, r, ob, es, ep, e, c⟩ := x; exact ⟨z, y, vs, r, ob, es, ep, k _ _ (.inl rfl) e, c⟩
  | dT kvs =>
    obtain ⟨z, y, xs, r, ob, es, ep, e, c⟩ := x
    exact ⟨z, y, xs, Paired.mapP r fun p q z => ⟨z.1, ht _ _ z.2.1, z.2.2⟩, ob, es, ep, k _ _ (.inl rfl) e, c⟩
  | set S n => obtain ⟨ob, es, ep, t, e, c⟩ := x; exact ⟨ob, es, ep, t, k _ _ (.inl rfl) e, c⟩
  | ins C dx fs =>
    obtain ⟨d, z, ne, e, mA, ⟨od, es, ep, e2, c⟩, r⟩ := x
    exact ⟨ho _ d, z, ne, k _ _ (.inl rfl) e, mA, ⟨od, es, ep, k _ _ (.inr d) e2, c⟩, r⟩
  | own y => obtain ⟨ob, e⟩ := x; exact ⟨ob, k _ _ (.inl rfl) e⟩
  | xd fs => obtain ⟨mA, ⟨od, es, ep, e, c⟩, r⟩ := x; exact ⟨mA, ⟨od, es, ep, k _ _ (.inl rfl) e, c⟩, r⟩
  | rng lo hi => obtain ⟨t, u, v, e⟩ := x; exact ⟨t, u, v, k _ _ (.inl rfl) e⟩
  | frz ob u ih => obtain ⟨e, q⟩ := x; exact ⟨k _ _ (.inl rfl) e, ih q⟩
  | tbl ps =>
    have e : h.get? a = some { cls := .none, data := .fields ps } := x
    show h'.get? a = some { cls := .none, data := .fields ps }
    exact k a _ (.inl rfl) e
  | met f y =>
    have e : h.get? a = some (PySem.W.methodObj (.ref f) (.ref y)) := x
    show h'.get? a = some (PySem.W.methodObj (.ref f) (.ref y))
    exact k a _ (.inl rfl) e
  | ext φ => obtain ⟨p, ⟨o, e⟩, st⟩ := x; exact ⟨st _ _ p fun o q => k _ _ (.inl rfl) q, ⟨o, k _ _ (.inl rfl) e⟩, st⟩
theorem HOk.lt (x : HOk P w H h) (e : H a = some o) : a < h.objs.size := (x a o e).lt
theorem HOk.fresh (x : HOk P w H h) (e : h.objs.size ≤ a) : H a = none := by
  cases q : H a with
  | none => rfl
  | some u => exact absurd (Nat.lt_of_lt_of_le (x.lt q) e) (Nat.lt_irrefl _)
/-- every object of the heap is kept -/
theorem HOk.kept (x : HOk P w H h) (k : ∀ b u, h.get? b = some u → h'.get? b = some u) : HOk P w H h' := fun a o e =>
  (x a o e).stay (fun b u _ q => k b u q) (fun _ q => q) fun _ _ q => q
/-- a new object is laid and tracked -/
theorem HOk.laid (x : HOk P w H h) (k : ∀ b u, h.get? b = some u → h'.get? b = some u) (hp : h.objs.size ≤ a) (new : ObjOk P w (upd H a o) h' a o) : HOk P w (upd H a o) h' := fun b u e => by
  have hn := x.fresh hp
  by_cases hb : b = a
  · subst hb; rw [upd_same] at e; cases e; exact new
  · rw [upd_ne hb] at e
    exact (x b u e).stay (fun c v _ q => k c v q) (fun c q => by rw [upd_ne (ne_of_none q hn)]; exact q) fun c xs q => by rw [upd_ne (ne_of_none q hn)]; exact q
end

/-- what may be read as u: it is u, or a known u -/
def Rd (H : Hp) (a : Addr) (u : HO) : Prop := H a = some u ∨ ∃ o, H a = some (.frz o u)
theorem Rd.ok {P : Program} {w : World} {H : Hp} {h : Heap} {a : Addr} {u : HO} (r : Rd H a u) (x : HOk P w H h) : ObjOk P w H h a u := by
  rcases r with r | ⟨o, r⟩
  · exact x a u r
  · obtain ⟨_, q⟩ := x a _ r
    exact q
/-- what may be written -/
def Mut : Option HO → Prop
  | some (.lst _) => True
  | some (.dK _) => True
  | some (.dT _) => True
  | some (.set _ _) => True
  | some (.ins _ _ _) => True
  | some (.ext _) => True
  | _ => False
section
variable {P : Program} {w : World} {H : Hp} {h h' : Heap} {x e : Addr} {o' : HO}
/-- the object at e is changed: x itself, or the dict of the instance x -/
theorem HOk.write (ok : HOk P w H h) (mu : Mut (H x)) (he : e = x ∨ H e = some (.own x)) (k : ∀ b u, b ≠ e → h.get? b = some u → h'.get? b = some u) (heo : ∃ u, h'.get? e = some u)
    (new : ObjOk P w (upd H x o') h' x o') : HOk P w (upd H x o') h' := fun b u q => by
  have nown : ∀ c y, H c = some (.own y) → c ≠ x := fun c y r z => by subst z; rw [r] at mu; exact mu
  have ntup : ∀ c xs, H c = some (.tup xs) → c ≠ x := fun c xs r z => by subst z; rw [r] at mu; exact mu
  by_cases hb : b = x
  · subst hb; rw [upd_same] at q; cases q; exact new
  · rw [upd_ne hb] at q
    by_cases hbe : b = e
    · have q' : H b = some (.own x) := by
        rcases he with z | z
        · exact absurd (hbe.trans z) hb
        · rw [hbe]; exact z
      rw [q] at q'; cases q'
      obtain ⟨v, hv⟩ := heo
      exact ⟨v, by rw [hbe]; exact hv⟩
    · refine (ok b u q).stay (fun c v hc r => k c v ?_ r) (fun c r => by rw [upd_ne (nown c b r)]; exact r) fun c xs r => by rw [upd_ne (ntup c xs r)]; exact r
      rcases hc with rfl | hc
      · exact hbe
      · rintro rfl
        rcases he with z | z
        · exact nown c b hc z
        · rw [hc] at z; cases z; exact hb rfl
end

structure Un (fs ex : List Addr) (H H' : Hp) (h h' : Heap) : Prop where
  keep : ∀ b o, h.get? b = some o → H b = none → b ∉ fs → b ∉ ex → h'.get? b = some o
  slot : ∀ b o, h.get? b = some o → H b = none → b ∈ fs → b ∉ ex → ∃ sl, h'.get? b = some { o with slots := sl }
  free : ∀ b o, h.get? b = some o → H b = none → b ∉ ex → H' b = none
  there : ∀ b o, h.get? b = some o → b ∉ ex → ∃ o', h'.get? b = some o'
  tups : ∀ b xs, H b = some (.tup xs) → H' b = some (.tup xs)
  frzs : ∀ b o u, H b = some (.frz o u) → H' b = some (.frz o u)
  tbls : ∀ b ps, H b = some (.tbl ps) → ∃ more, H' b = some (.tbl (ps ++ more))
section
variable {fs fs' ex ex' : List Addr} {H H1 H2 : Hp} {h h1 h2 h' : Heap} {a x e : Addr} {o : HO}
theorem Un.any (u : Un fs ex H H1 h h1) {b : Addr} {ob : Obj} (q : h.get? b = some ob) (n : H b = none) (hx : b ∉ ex) : ∃ sl, h1.get? b = some { ob with slots := sl } := by
  by_cases hb : b ∈ fs
  · exact u.slot b ob q n hb hx
  · exact ⟨ob.slots, u.keep b ob q n hb hx⟩
theorem Un.kept (k : ∀ b u, h.get? b = some u → h'.get? b = some u) : Un fs ex H H h h' :=
  ⟨fun b ob q _ _ _ => k b ob q, fun b ob q _ _ _ => ⟨ob.slots, k b ob q⟩, fun _ _ _ n _ => n, fun b ob q _ => ⟨ob, k b ob q⟩, fun _ _ q => q, fun _ _ _ q => q, fun _ ps q => ⟨#[], by rw [q]; simp⟩⟩
theorem Un.refl : Un fs ex H H h h := Un.kept fun _ _ q => q
theorem Un.laid (k : ∀ b u, h.get? b = some u → h'.get? b = some u) (hp : h.objs.size ≤ a) (hn : H a = none) : Un fs ex H (upd H a o) h h' where
  keep := fun b u q _ _ _ => k b u q
  slot := fun b u q _ _ _ => ⟨u.slots, k b u q⟩
  free := fun b u q n _ => by rw [upd_ne (Nat.ne_of_lt (Nat.lt_of_lt_of_le (Heap.lt_size q) hp))]; exact n
  there := fun b u q _ => ⟨u, k b u q⟩
  tups := fun b xs q => by rw [upd_ne (ne_of_none q hn)]; exact q
  frzs := fun b u xs q => by rw [upd_ne (ne_of_none q hn)]; exact q
  tbls := fun b ps q => ⟨#[], by rw [upd_ne (ne_of_none q hn), q]; simp⟩
theorem Un.write (mu : Mut (H x)) (he : e = x ∨ H e = some (.own x)) (k : ∀ b u, b ≠ e → h.get? b = some u → h'.get? b = some u) (heo : ∃ u, h'.get? e = some u) : Un fs ex H (upd H x o) h h' := by
  have hx : ∀ b, H b = none → b ≠ x := fun b n z => by subst z; rw [n] at mu; exact mu
  have hb : ∀ b, H b = none → b ≠ e := fun b n z => by
    subst z
    rcases he with r | r
    · exact hx b n r
    · rw [n] at r; cases r
  have hm : ∀ b u, H b = some u → ¬ Mut (some u) → b ≠ x := fun b u q nm z => by subst z; rw [q] at mu; exact nm mu
  refine ⟨fun b u q n _ _ => k b u (hb b n) q, fun b u q n _ _ => ⟨u.slots, k b u (hb b n) q⟩, fun b u q n _ => by rw [upd_ne (hx b n)]; exact n, fun b u q _ => ?_,
    fun b xs q => by rw [upd_ne (hm b _ q fun z => z)]; exact q, fun b u xs q => by rw [upd_ne (hm b _ q fun z => z)]; exact q, fun b ps q => ⟨#[], by rw [upd_ne (hm b _ q fun z => z), q]; simp⟩⟩
  by_cases hbe : b = e
  · subst hbe; exact heo
  · exact ⟨u, k b u hbe q⟩
end

def trk (h : Heap) (H : Hp) : List Addr := (List.range h.objs.size).filter fun a => (H a).isSome
def hidT (h : Heap) (H : Hp) : Heap := PySem.W.hideAll h (trk h H)
theorem hidT_size (h : Heap) (H : Hp) : (hidT h H).objs.size = h.objs.size := PySem.W.hideAll_size _ _
theorem hidT_get {h : Heap} {H : Hp} {b : Addr} {o : Obj} (e : h.get? b = some o) (n : H b = none) : (hidT h H).get? b = some o :=
  PySem.W.hideAll_get _ e fun hm => by
    have q : (H b).isSome = true := (List.mem_filter.mp hm).2
    rw [n] at q; simp at q
theorem of_hidT {h : Heap} {H : Hp} {b : Addr} {o : Obj} (e : (hidT h H).get? b = some o) : h.get? b = some o ∧ H b = none := by
  have e' : h.get? b = some o := PySem.W.of_hideAll (trk h H) e
  refine ⟨e', ?_⟩
  cases q : H b with
  | none => rfl
  | some x =>
    have hm : b ∈ trk h H := List.mem_filter.mpr ⟨List.mem_range.mpr (Heap.lt_size e'), by simp [q]⟩
    have z : (hidT h H).get? b = none := PySem.W.hideAll_none (trk h H) hm
    rw [z] at e; cases e

end L2

namespace L2
open PySem PySem.Spec PyProof.Rows

/-- the module's facts, over the base: the heap at the law's entry without what is tracked there -/
structure Mod (K : PySem.W.Frag) (mg : Str → Option Value) (base : Heap) : Prop where
  kin : K.In base
  glob : base.Ns mainGlobals mg
  blt : ∃ mb, base.Ns builtinsNs mb ∧ ∀ x : Str, x ≠ "__name__" → mb x = bootBuiltins x
  nolimit : base.NoLimit

/-- the context: a def's body (or a comprehension's block) running. base: fixed through the whole law; s₀, H₀: the entry; outer: the frames whose slots others may change (a def's callers); stack: all frames that run;
   ex: iterators that were made ahead of the entry and are walked here (a comprehension's); fn: the names whose cells were made at the entry (a def: all; a comprehension's block: its own); calm: not within an except suite; pn: pins that every state bears; xe: what is wanted of an exception that leaves the code -/
structure Cx where
  prog : Program
  w : World
  K : PySem.W.Frag
  mg : Str → Option Value
  base : Heap
  A : Around
  N : List Str
  s₀ : Shared
  H₀ : Hp
  env : Env
  outer : List Env
  stack : List Env
  ex : List Addr
  fn : Str → Bool
  calm : Bool
  pn : List (Addr × Obj)
  xe : Value → Shared → Prop
/-- the callers' frames -/
def frs (l : List Env) : List Addr := l.filterMap (·.frame)
abbrev Cx.fs (X : Cx) : List Addr := frs X.outer

def Vis (sc : Scope) (x : Str) : Prop := sc.names.lookup x = some .local ∨ sc.names.lookup x = some .cell ∨ sc.names.lookup x = some .free
def Loc (sc : Scope) (x : Str) : Prop := sc.names.lookup x = some .local ∨ sc.names.lookup x = some .cell
def Look (env : Env) (h : Heap) (m : Str → Option Value) (x : Str) (u : Value) : Prop :=
  (env.kindOf x = some .local ∧ m x = some u) ∨ ((env.kindOf x = some .cell ∨ env.kindOf x = some .free) ∧ ∃ c, env.cells.lookup x = some c ∧ h.IsCell c (some u))

structure Cx.Ok (X : Cx) : Prop where
  mod : Mod X.K X.mg X.base
  kind : X.env.scope.kind = .function
  glob : X.env.globals = mainGlobals
  blt : X.env.builtins = builtinsNs
  above : X.s₀.heap.objs.size ≤ X.env.locals
  inj : ∀ x y c, X.env.cells.lookup x = some c → X.env.cells.lookup y = some c → x = y
  has : ∀ x, (X.env.kindOf x = some .cell ∨ X.env.kindOf x = some .free) → ∃ c, X.env.cells.lookup x = some c
  cab : ∀ x c, X.fn x = true → X.env.cells.lookup x = some c → X.s₀.heap.objs.size ≤ c
  hd : X.calm = true → X.A.handled = none
  frames : X.A.frames = some X.stack
  stk : X.stack = X.outer ∨ (X.stack = X.env :: X.outer ∧ X.env.frame = some X.env.locals)
  exf : ∀ b ∈ X.ex, b ≠ X.env.locals ∧ ∀ x c, X.env.cells.lookup x = some c → c ≠ b
  bs : ∀ b o, X.base.get? b = some o → X.s₀.heap.get? b = some o ∧ X.H₀ b = none
  bsz : X.base.objs.size ≤ X.s₀.heap.objs.size
  noex : ∀ b o, X.base.get? b = some o → b ∉ X.ex
  exfs : ∀ b ∈ X.ex, b ∉ X.fs
  funs : X.s₀.heap.FunFrames X.base X.outer
  frf : ∀ b ∈ X.fs, X.H₀ b = none

structure Inv (X : Cx) (pins : List (Addr × Obj)) (σ : List (Option V)) (H : Hp) (s : Shared) : Prop where
  ok : X.Ok
  os : s.os = X.s₀.os
  bare : AllBare s.gens
  base : Un X.fs X.ex X.H₀ H X.s₀.heap s.heap
  loc : ∃ m, s.heap.Ns X.env.locals m ∧ ∀ (i : Nat) (x : Str) (v : V), X.N[i]? = some x → σ[i]? = some (some v) → Vis X.env.scope x → ∃ u, RelV v u ∧ Look X.env s.heap m x u
  cell : ∀ x c, X.env.cells.lookup x = some c → ∃ v, s.heap.IsCell c v
  free : H X.env.locals = none
  freeC : ∀ x c, X.env.cells.lookup x = some c → H c = none
  pin : ∀ p ∈ X.pn ++ pins, s.heap.get? p.1 = some p.2 ∧ H p.1 = none ∧ p.1 ≠ X.env.locals ∧ p.1 ∉ X.fs ∧ ∀ v, p.2.data ≠ .cell v
  hok : HOk X.prog X.w H s.heap
  len : σ.length = X.N.length

section
variable {X : Cx} {pins : List (Addr × Obj)} {σ : List (Option V)} {H H' : Hp} {s : Shared} {h' : Heap}

theorem Cx.Ok.nofr (ok : X.Ok) {b : Addr} {o : Obj} (e : X.base.get? b = some o) : b ∉ X.fs := fun hb => by
  have := (ok.funs.mem hb).1
  rw [e] at this; cases this
theorem Inv.bs (I : Inv X pins σ H s) : ∀ b o, X.base.get? b = some o → s.heap.get? b = some o ∧ H b = none := fun b o e =>
  ⟨I.base.keep b o (I.ok.bs b o e).1 (I.ok.bs b o e).2 (I.ok.nofr e) (I.ok.noex b o e), I.base.free b o (I.ok.bs b o e).1 (I.ok.bs b o e).2 (I.ok.noex b o e)⟩
theorem Inv.bk (I : Inv X pins σ H s) : ∀ b o, X.base.get? b = some o → s.heap.get? b = some o := fun b o e => (I.bs b o e).1
theorem Inv.mod (I : Inv X pins σ H s) : Mod X.K X.mg X.base := I.ok.mod
theorem Inv.kIn (I : Inv X pins σ H s) : X.K.In s.heap := I.ok.mod.kin.keeps I.bk
/-- the frame over the base: for OpenK's rules (K.In X.base is I.mod.kin) -/
theorem Inv.fr (I : Inv X pins σ H s) : ∃ m, Fr X.base X.env.locals s.heap m :=
  let ⟨m, hn, _⟩ := I.loc
  ⟨m, hn, I.bk, Nat.le_trans I.ok.bsz I.ok.above⟩
theorem Inv.lt (I : Inv X pins σ H s) : X.env.locals < s.heap.objs.size := let ⟨_, hn, _⟩ := I.loc; hn.lt
theorem Inv.sz (I : Inv X pins σ H s) : X.s₀.heap.objs.size ≤ s.heap.objs.size := Nat.le_trans I.ok.above (Nat.le_of_lt I.lt)
theorem Inv.nofs (I : Inv X pins σ H s) {a : Addr} (h : s.heap.objs.size ≤ a) : a ∉ X.fs := fun hb => by
  obtain ⟨_, o, ho, _⟩ := I.ok.funs.mem hb
  exact absurd (Nat.lt_of_lt_of_le (Heap.lt_size ho) (Nat.le_trans I.sz h)) (Nat.lt_irrefl _)
theorem Inv.cne (I : Inv X pins σ H s) : ∀ x c, X.env.cells.lookup x = some c → c ≠ X.env.locals := fun x c e z => by
  obtain ⟨v, o, ho, hd⟩ := I.cell x c e
  obtain ⟨m, ⟨o', es, ep, ho', hd', _⟩, _⟩ := I.loc
  rw [z, ho'] at ho; cases ho; rw [hd'] at hd; cases hd
theorem Inv.funs (I : Inv X pins σ H s) : s.heap.FunFrames X.base X.outer := by
  have all : ∀ (l : List Env), (∀ b ∈ frs l, b ∈ X.fs) → X.s₀.heap.FunFrames X.base l → s.heap.FunFrames X.base l := by
    intro l
    induction l with
    | nil => intro _ _; trivial
    | cons env r ih =>
      intro hs hl
      obtain ⟨hk, ⟨L, o, hf, hn, ho, hd⟩, hr⟩ := hl
      have hL : L ∈ X.fs := hs L (by unfold frs; rw [List.filterMap_cons, hf]; exact List.mem_cons_self)
      obtain ⟨sl, e⟩ := I.base.slot L o ho (I.ok.frf L hL) hL fun z => I.ok.exfs L z hL
      exact ⟨hk, ⟨L, _, hf, hn, e, hd⟩, ih (fun b hb => hs b (by unfold frs; rw [List.filterMap_cons, hf]; exact List.mem_cons_of_mem _ hb)) hr⟩
  exact all X.outer (fun _ hb => hb) I.ok.funs

/-- the frames that run, for a call -/
theorem Inv.stack (I : Inv X pins σ H s) : s.heap.FunFrames X.base X.stack := by
  rcases I.ok.stk with e | ⟨e, hf⟩
  · rw [e]; exact I.funs
  · rw [e]
    obtain ⟨m, hn, _⟩ := I.loc
    refine .cons (by rw [I.ok.kind]; decide) hf hn ?_ I.funs
    exact Heap.get?_none_of_le (Nat.le_trans I.ok.bsz I.ok.above)
theorem Inv.stkSub (I : Inv X pins σ H s) : ∀ b ∈ frs X.stack, b ∈ X.env.locals :: X.fs := fun b hb => by
  rcases I.ok.stk with e | ⟨e, hf⟩
  · rw [e] at hb; exact List.mem_cons_of_mem _ hb
  · rw [e] at hb
    unfold frs at hb
    rw [List.filterMap_cons, hf] at hb
    exact hb
theorem Inv.stkFree (I : Inv X pins σ H s) : ∀ b ∈ frs X.stack, H b = none := fun b hb => by
  rcases List.mem_cons.mp (I.stkSub b hb) with e | hb
  · rw [e]; exact I.free
  · obtain ⟨_, o, ho, _⟩ := I.ok.funs.mem hb
    exact I.base.free b o ho (I.ok.frf b hb) fun z => I.ok.exfs b z hb

/-- THE STEP: the untracked objects but the frame and the records at ch are kept (the callers' frames up to slots), the frame's map is kept, the new abstract heap is held -/
theorem Inv.step {g' : Array GenState} {t' : Nat} {d' : Drawn} {ch : List Addr} (I : Inv X pins σ H s)
    (hch : ∀ b ∈ ch, (b ∈ X.ex ∨ X.s₀.heap.objs.size ≤ b) ∧ b ≠ X.env.locals ∧ (∀ x c, X.env.cells.lookup x = some c → c ≠ b) ∧ ∀ p ∈ X.pn ++ pins, p.1 ≠ b)
    (keep : ∀ b o, b ≠ X.env.locals → b ∉ X.fs → b ∉ ch → s.heap.get? b = some o → H b = none → h'.get? b = some o)
    (slot : ∀ b o, b ≠ X.env.locals → b ∈ X.fs → b ∉ ch → s.heap.get? b = some o → H b = none → ∃ sl, h'.get? b = some { o with slots := sl }) (free : ∀ b o, b ∉ ch → s.heap.get? b = some o → H b = none → H' b = none)
    (there : ∀ b o, b ∉ ch → s.heap.get? b = some o → ∃ o', h'.get? b = some o')
    (tups : ∀ b xs, H b = some (.tup xs) → H' b = some (.tup xs)) (frzs : ∀ b o u, H b = some (.frz o u) → H' b = some (.frz o u)) (tbls : ∀ b ps, H b = some (.tbl ps) → ∃ more, H' b = some (.tbl (ps ++ more)))
    (ns : ∀ m, s.heap.Ns X.env.locals m → h'.Ns X.env.locals m) (hok : HOk X.prog X.w H' h') (hg : AllBare g') :
    Inv X pins σ H' { s with heap := h', gens := g', drawn := d', toks := t' } := by
  have neL : ∀ b o, X.s₀.heap.get? b = some o → b ≠ X.env.locals := fun b o e => Nat.ne_of_lt (Nat.lt_of_lt_of_le (Heap.lt_size e) I.ok.above)
  have neC : ∀ b o, X.s₀.heap.get? b = some o → b ∉ X.ex → b ∉ ch := fun b o e hx hb => by
    rcases (hch b hb).1 with z | z
    · exact hx z
    · exact absurd (Nat.lt_of_lt_of_le (Heap.lt_size e) z) (Nat.lt_irrefl _)
  have cellK : ∀ x c, X.env.cells.lookup x = some c → ∀ v, s.heap.IsCell c v → h'.IsCell c v := fun x c e v ⟨o, ho, hd⟩ => by
    have nch : c ∉ ch := fun z => (hch c z).2.2.1 x c e rfl
    by_cases hc : c ∈ X.fs
    · obtain ⟨sl, q⟩ := slot c o (I.cne x c e) hc nch ho (I.freeC x c e)
      exact ⟨_, q, hd⟩
    · exact ⟨o, keep c o (I.cne x c e) hc nch ho (I.freeC x c e), hd⟩
  refine ⟨I.ok, I.os, hg, ⟨fun b o e n hb hx => ?_, fun b o e n hb hx => ?_, fun b o e n hx => ?_, fun b o e hx => ?_, fun b xs e => tups b xs (I.base.tups b xs e), fun b o xs e => frzs b o xs (I.base.frzs b o xs e), fun b ps e => ?_⟩, ?_, fun x c e => ?_, ?_, fun x c e => ?_, fun p hp => ?_, hok, I.len⟩
  · exact keep b o (neL b o e) hb (neC b o e hx) (I.base.keep b o e n hb hx) (I.base.free b o e n hx)
  · obtain ⟨sl, e1⟩ := I.base.slot b o e n hb hx
    obtain ⟨sl', e2⟩ := slot b _ (neL b o e) hb (neC b o e hx) e1 (I.base.free b o e n hx)
    exact ⟨sl', e2⟩
  · obtain ⟨o', e1⟩ := I.base.there b o e hx
    exact free b o' (neC b o e hx) e1 (I.base.free b o e n hx)
  · obtain ⟨o', e1⟩ := I.base.there b o e hx
    exact there b o' (neC b o e hx) e1
  · obtain ⟨m1, e1⟩ := I.base.tbls b ps e
    obtain ⟨m2, e2⟩ := tbls b _ e1
    exact ⟨m1 ++ m2, by rw [e2, Array.append_assoc]⟩
  · obtain ⟨m, hn, hl⟩ := I.loc
    refine ⟨m, ns m hn, fun i x v e1 e2 e3 => ?_⟩
    obtain ⟨u, r, l⟩ := hl i x v e1 e2 e3
    refine ⟨u, r, ?_⟩
    rcases l with l | ⟨k, c, e, z⟩
    · exact .inl l
    · exact .inr ⟨k, c, e, cellK x c e _ z⟩
  · obtain ⟨v, z⟩ := I.cell x c e
    exact ⟨v, cellK x c e v z⟩
  · obtain ⟨m, ⟨o, _, _, ho, _⟩, _⟩ := I.loc
    exact free _ o (fun z => (hch _ z).2.1 rfl) ho I.free
  · obtain ⟨v, o, ho, hd⟩ := I.cell x c e
    exact free c o (fun z => (hch c z).2.2.1 x c e rfl) ho (I.freeC x c e)
  · obtain ⟨e, n, ne, nf, d⟩ := I.pin p hp
    have nch : p.1 ∉ ch := fun z => (hch p.1 z).2.2.2 p hp rfl
    exact ⟨keep p.1 p.2 ne nf nch e n, free p.1 p.2 nch e n, ne, nf, d⟩
/-- .. where the frame's own object is kept too -/
theorem Inv.un {t' : Nat} (I : Inv X pins σ H s) (u : Un X.fs [] H H' s.heap h') (hok : HOk X.prog X.w H' h') : Inv X pins σ H' { s with heap := h', toks := t' } := by
  obtain ⟨m, ⟨o, es, ep, ho, r⟩, _⟩ := id I.loc
  obtain ⟨sl, hL⟩ := u.any ho I.free (by simp)
  exact I.step (g' := s.gens) (d' := s.drawn) (ch := []) (fun _ z => nomatch z) (fun b o _ hb _ e n => u.keep b o e n hb (by simp)) (fun b o _ hb _ e n => u.slot b o e n hb (by simp)) (fun b o _ e n => u.free b o e n (by simp)) (fun b o _ e => u.there b o e (by simp)) u.tups u.frzs u.tbls (fun m' hm => by
    obtain ⟨o', es', ep', ho', r'⟩ := hm
    rw [ho] at ho'; cases ho'
    exact ⟨_, es', ep', hL, r'⟩) hok I.bare
/-- behind a call (or a comprehension's block): the slots of this frame may have changed too, the records at ch may have turned -/
theorem Inv.call {g' : Array GenState} {t' : Nat} {d' : Drawn} {ch : List Addr} (I : Inv X pins σ H s) (u : Un (frs X.stack) ch H H' s.heap h') (hok : HOk X.prog X.w H' h') (hg : AllBare g')
    (hch : ∀ b ∈ ch, (b ∈ X.ex ∨ X.s₀.heap.objs.size ≤ b) ∧ b ≠ X.env.locals ∧ (∀ x c, X.env.cells.lookup x = some c → c ≠ b) ∧ ∀ p ∈ X.pn ++ pins, p.1 ≠ b) :
    Inv X pins σ H' { s with heap := h', gens := g', drawn := d', toks := t' } := by
  obtain ⟨m, ⟨o, es, ep, ho, r⟩, _⟩ := id I.loc
  obtain ⟨sl, hL⟩ := u.any ho I.free fun z => (hch _ z).2.1 rfl
  exact I.step (ch := ch) hch (fun b o hL hb hc e n => u.keep b o e n (fun z => (List.mem_cons.mp (I.stkSub b z)).elim hL hb) hc) (fun b o _ _ hc e n => u.any e n hc) (fun b o hc e n => u.free b o e n hc) (fun b o hc e => u.there b o e hc) u.tups u.frzs u.tbls (fun m' hm => by
    obtain ⟨o', es', ep', ho', r'⟩ := hm
    rw [ho] at ho'; cases ho'
    exact ⟨_, es', ep', hL, r'⟩) hok hg
/-- an untracked record of ours (an iterator) has turned -/
theorem Inv.turned {t' : Nat} {it : Addr} (I : Inv X pins σ H s) (k : ∀ b o, b ≠ it → s.heap.get? b = some o → h'.get? b = some o) (hn : H it = none) (hL : it ≠ X.env.locals)
    (h1 : it ∈ X.ex ∨ X.s₀.heap.objs.size ≤ it) (h2 : ∀ x c, X.env.cells.lookup x = some c → c ≠ it) (h3 : ∀ p ∈ X.pn ++ pins, p.1 ≠ it) : Inv X pins σ H { s with heap := h', toks := t' } := by
  have nit : ∀ b u, H b = some u → b ≠ it := fun b u e z => by rw [z, hn] at e; cases e
  refine I.step (g' := s.gens) (d' := s.drawn) (ch := [it]) (fun b hb => ?_) (fun b o _ _ hc e _ => k b o (fun z => hc (by simp [z])) e) (fun b o _ _ hc e _ => ⟨o.slots, k b o (fun z => hc (by simp [z])) e⟩) (fun _ _ _ _ n => n)
    (fun b o hc e => ⟨o, k b o (fun z => hc (by simp [z])) e⟩) (fun _ _ e => e) (fun _ _ _ e => e) (fun b ps e => ⟨#[], by rw [e]; simp⟩) (fun m hm => ?_) (fun b u e => ?_) I.bare
  · have e : b = it := by simpa using hb
    subst e
    exact ⟨h1, hL, h2, h3⟩
  · obtain ⟨o, es, ep, ho, r⟩ := hm
    exact ⟨o, es, ep, k _ o (Ne.symm hL) ho, r⟩
  · refine (I.hok b u e).stay (fun c v hc q => k c v ?_ q) (fun _ q => q) fun _ _ q => q
    rcases hc with z | z
    · rw [z]; exact nit b u e
    · exact nit c _ z
theorem Inv.tok (I : Inv X pins σ H s) (t : Nat) : Inv X pins σ H { s with toks := t } := I.un (h' := s.heap) (t' := t) Un.refl I.hok
/-- all objects kept -/
theorem Inv.kept {t' : Nat} (I : Inv X pins σ H s) (k : ∀ b u, s.heap.get? b = some u → h'.get? b = some u) : Inv X pins σ H { s with heap := h', toks := t' } := I.un (Un.kept k) (I.hok.kept k)
/-- a new object laid and tracked -/
theorem Inv.laid {a : Addr} {o : HO} {t' : Nat} (I : Inv X pins σ H s) (k : ∀ b u, s.heap.get? b = some u → h'.get? b = some u) (hp : s.heap.objs.size ≤ a) (new : ObjOk X.prog X.w (upd H a o) h' a o) :
    Inv X pins σ (upd H a o) { s with heap := h', toks := t' } := I.un (Un.laid k hp (I.hok.fresh hp)) (I.hok.laid k hp new)
/-- an object written -/
theorem Inv.write {x e : Addr} {o : HO} {t' : Nat} (I : Inv X pins σ H s) (mu : Mut (H x)) (he : e = x ∨ H e = some (.own x)) (k : ∀ b u, b ≠ e → s.heap.get? b = some u → h'.get? b = some u) (heo : ∃ u, h'.get? e = some u)
    (new : ObjOk X.prog X.w (upd H x o) h' x o) : Inv X pins σ (upd H x o) { s with heap := h', toks := t' } := I.un (Un.write mu he k heo) (I.hok.write mu he k heo new)
/-- forgetting slots, pins -/
theorem Inv.weak {σ' : List (Option V)} (I : Inv X pins σ H s) (hl : σ'.length = σ.length) (w : ∀ (i : Nat) v, σ'[i]? = some (some v) → σ[i]? = some (some v)) : Inv X pins σ' H s :=
  ⟨I.ok, I.os, I.bare, I.base, let ⟨m, hn, hl'⟩ := I.loc; ⟨m, hn, fun i x v e1 e2 e3 => hl' i x v e1 (w i v e2) e3⟩, I.cell, I.free, I.freeC, I.pin, I.hok, hl.trans I.len⟩
theorem Inv.pins_of {pins' : List (Addr × Obj)} (I : Inv X pins σ H s) (h : ∀ p ∈ pins', s.heap.get? p.1 = some p.2 ∧ H p.1 = none ∧ p.1 ≠ X.env.locals ∧ p.1 ∉ X.fs ∧ ∀ v, p.2.data ≠ .cell v) : Inv X pins' σ H s :=
  ⟨I.ok, I.os, I.bare, I.base, I.loc, I.cell, I.free, I.freeC, fun p hp => (List.mem_append.mp hp).elim (fun z => I.pin p (List.mem_append_left _ z)) (h p), I.hok, I.len⟩

theorem nodup_ix {N : List Str} (hN : N.Nodup) {i j : Nat} {x : Str} (a : N[i]? = some x) (b : N[j]? = some x) : i = j := by
  obtain ⟨h1, e1⟩ := List.getElem?_eq_some_iff.mp a
  obtain ⟨h2, e2⟩ := List.getElem?_eq_some_iff.mp b
  exact (List.getElem_inj hN).mp (e1.trans e2.symm)

/-- a name is stored; what changed -/
theorem store_ok2 {M : Model} {A : Around} {E : Value → Shared → Prop} {i : Nat} {x : Str} {v : V} {u : Value} {Q : Unit → Shared → Prop} (I : Inv X pins σ H s) (hN : X.N.Nodup) (hi : X.N[i]? = some x) (hx : Loc X.env.scope x) (r : RelV v u)
    (h : ∀ s', Inv X pins (σ.set i (some v)) H s' → (∃ a, Heap.SameBut a s.heap s'.heap ∧ (a = X.env.locals ∨ X.env.cells.lookup x = some a)) → Q () s') (hf : X.fn x = true ∨ X.env.scope.names.lookup x = some .local := by first | exact .inl rfl | exact .inr rfl | assumption) : wpAny M A (storeName X.env x u) Q E s := by
  obtain ⟨m, hn, hl⟩ := id I.loc
  have hcls : (X.env.scope.kind == .class || (X.env.scope.kind == .module && X.env.locals != X.env.globals)) = false := by rw [I.ok.kind]; rfl
  have hiσ : i < σ.length := by rw [I.len]; exact (List.getElem?_eq_some_iff.mp hi).1
  have cne := I.cne
  have tracked : ∀ {a : Addr} {h' : Heap}, (∃ o, s.heap.get? a = some o ∧ H a = none) → Heap.SameBut a s.heap h' → HOk X.prog X.w H h' := fun {a h'} ha hs b ob e => by
    obtain ⟨_, _, hfree⟩ := ha
    refine (I.hok b ob e).stay (fun c w' hc q => (hs.2 c ?_).trans q) (fun _ q => q) fun _ _ q => q
    rintro rfl
    rcases hc with rfl | hc
    · rw [hfree] at e; cases e
    · rw [hfree] at hc; cases hc
  rcases hx with hk | hk
  · refine wpAny_storeName_local hk hn (fun h' hn' hs => ?_) hcls
    obtain ⟨oL, _, _, hoL, _⟩ := id hn
    refine h _ ⟨I.ok, I.os, I.bare, ⟨fun b o e n hb hx => ?_, fun b o e n hb hx => ?_, I.base.free, fun b o e hx => ?_, I.base.tups, I.base.frzs, I.base.tbls⟩, ⟨_, hn', fun j y v' e1 e2 e3 => ?_⟩, fun y c e => ?_, I.free, I.freeC, fun p hp => ?_, tracked ⟨oL, hoL, I.free⟩ hs, by simpa using I.len⟩ ⟨_, hs, .inl rfl⟩
    · exact (hs.2 b (Nat.ne_of_lt (Nat.lt_of_lt_of_le (Heap.lt_size e) I.ok.above))).trans (I.base.keep b o e n hb hx)
    · obtain ⟨sl, e1⟩ := I.base.slot b o e n hb hx
      exact ⟨sl, (hs.2 b (Nat.ne_of_lt (Nat.lt_of_lt_of_le (Heap.lt_size e) I.ok.above))).trans e1⟩
    · obtain ⟨o', e1⟩ := I.base.there b o e hx
      exact ⟨o', (hs.2 b (Nat.ne_of_lt (Nat.lt_of_lt_of_le (Heap.lt_size e) I.ok.above))).trans e1⟩
    · by_cases hj : j = i
      · subst hj
        rw [hi] at e1; cases e1
        rw [List.getElem?_set_self hiσ] at e2
        cases e2
        exact ⟨u, r, .inl ⟨hk, by simp⟩⟩
      · rw [List.getElem?_set_ne (Ne.symm hj)] at e2
        obtain ⟨u', r', q⟩ := hl j y v' e1 e2 e3
        refine ⟨u', r', ?_⟩
        rcases q with ⟨k, e⟩ | ⟨k, c, e, z⟩
        · refine .inl ⟨k, ?_⟩
          have : y ≠ x := fun e => hj (nodup_ix hN e1 (e ▸ hi))
          simp [this, e]
        · exact .inr ⟨k, c, e, z.sameBut hs (cne y c e)⟩
    · obtain ⟨w', z⟩ := I.cell y c e
      exact ⟨w', z.sameBut hs (cne y c e)⟩
    · obtain ⟨e, n, ne, nf, d⟩ := I.pin p hp
      exact ⟨(hs.2 p.1 ne).trans e, n, ne, nf, d⟩
  · have hfn : X.fn x = true := by
      rcases hf with z | z
      · exact z
      · rw [z] at hk; cases hk
    obtain ⟨c, hc⟩ := I.ok.has x (.inl hk)
    obtain ⟨w', z⟩ := I.cell x c hc
    refine wpAny_storeName_cell I.ok.kind hk hc z (fun h' hc' hs => ?_)
    obtain ⟨oc, hoc, hocd⟩ := id z
    refine h { s with heap := h' } ⟨I.ok, I.os, I.bare, ⟨fun b o e n hb hx => ?_, fun b o e n hb hx => ?_, I.base.free, fun b o e hx => ?_, I.base.tups, I.base.frzs, I.base.tbls⟩, ⟨m, hn.sameBut hs (Ne.symm (cne x c hc)), fun j y v' e1 e2 e3 => ?_⟩, fun y c' e => ?_, I.free, I.freeC, fun p hp => ?_, tracked ⟨oc, hoc, I.freeC x c hc⟩ hs, by simpa using I.len⟩ ⟨c, hs, .inr hc⟩
    · exact (hs.2 b (Nat.ne_of_lt (Nat.lt_of_lt_of_le (Heap.lt_size e) (I.ok.cab x c hfn hc)))).trans (I.base.keep b o e n hb hx)
    · obtain ⟨sl, e1⟩ := I.base.slot b o e n hb hx
      exact ⟨sl, (hs.2 b (Nat.ne_of_lt (Nat.lt_of_lt_of_le (Heap.lt_size e) (I.ok.cab x c hfn hc)))).trans e1⟩
    · obtain ⟨o', e1⟩ := I.base.there b o e hx
      exact ⟨o', (hs.2 b (Nat.ne_of_lt (Nat.lt_of_lt_of_le (Heap.lt_size e) (I.ok.cab x c hfn hc)))).trans e1⟩
    · by_cases hj : j = i
      · subst hj
        rw [hi] at e1; cases e1
        rw [List.getElem?_set_self hiσ] at e2
        cases e2
        exact ⟨u, r, .inr ⟨.inl hk, c, hc, hc'⟩⟩
      · rw [List.getElem?_set_ne (Ne.symm hj)] at e2
        obtain ⟨u', r', q⟩ := hl j y v' e1 e2 e3
        refine ⟨u', r', ?_⟩
        rcases q with q | ⟨k, c', e, z'⟩
        · exact .inl q
        · refine .inr ⟨k, c', e, z'.sameBut hs ?_⟩
          rintro rfl
          exact hj (nodup_ix hN e1 (I.ok.inj _ _ _ e hc ▸ hi))
    · by_cases hcc : c' = c
      · subst hcc; exact ⟨_, hc'⟩
      · obtain ⟨w2, z2⟩ := I.cell y c' e
        exact ⟨w2, z2.sameBut hs hcc⟩
    · obtain ⟨e, n, ne, nf, d⟩ := I.pin p hp
      refine ⟨(hs.2 p.1 ?_).trans e, n, ne, nf, d⟩
      intro q
      rw [q, hoc] at e
      have q' : oc = p.2 := Option.some.inj e
      exact d w' (by rw [← q']; exact hocd)
theorem store_ok {M : Model} {A : Around} {E : Value → Shared → Prop} {i : Nat} {x : Str} {v : V} {u : Value} {Q : Unit → Shared → Prop} (I : Inv X pins σ H s) (hN : X.N.Nodup) (hi : X.N[i]? = some x) (hx : Loc X.env.scope x) (r : RelV v u)
    (h : ∀ s', Inv X pins (σ.set i (some v)) H s' → Q () s') (hf : X.fn x = true ∨ X.env.scope.names.lookup x = some .local := by first | exact .inl rfl | exact .inr rfl | assumption) : wpAny M A (storeName X.env x u) Q E s :=
  store_ok2 I hN hi hx r (fun s' I' _ => h s' I') hf
/-- behind a call or a block, the state as it is -/
theorem Inv.call' {s' : Shared} {ch : List Addr} (I : Inv X pins σ H s) (ho : s'.os = s.os) (u : Un (frs X.stack) ch H H' s.heap s'.heap) (hok : HOk X.prog X.w H' s'.heap) (hg : AllBare s'.gens)
    (hch : ∀ b ∈ ch, (b ∈ X.ex ∨ X.s₀.heap.objs.size ≤ b) ∧ b ≠ X.env.locals ∧ (∀ x c, X.env.cells.lookup x = some c → c ≠ b) ∧ ∀ p ∈ X.pn ++ pins, p.1 ≠ b) : Inv X pins σ H' s' := by
  obtain ⟨h', g', d', t', o'⟩ := s'
  have e : o' = s.os := ho
  subst e
  exact I.call (g' := g') (t' := t') (d' := d') u hok hg hch
end

/-- an exception: its class, its own dict's address (where it has one), the abstract heap behind it -/
abbrev XK := Value → Option Addr → Hp → Prop
abbrev St := List (Option V)
abbrev VK := V → Hp → Prop
/-- an expression's reading; a test's; an argument list's -/
abbrev TE := St → Hp → VK → Prop
abbrev TT := St → Hp → (Bool → Hp → Prop) → Prop
abbrev TA := St → Hp → (List V → Hp → Prop) → Prop
/-- what is wanted behind a statement -/
structure Ends where
  nx : St → Hp → Prop
  rt : VK
  bk : St → Hp → Prop := fun _ _ => False
  ct : St → Hp → Prop := fun _ _ => False
abbrev TS := Ends → St → Hp → Prop

def EP (X : Cx) (pins : List (Addr × Obj)) (σ : St) (Q : VK) (u : Value) (s' : Shared) : Prop := ∃ v H', Inv X pins σ H' s' ∧ RelV v u ∧ Q v H'
def TP (X : Cx) (pins : List (Addr × Obj)) (σ : St) (Q : Bool → Hp → Prop) (b : Bool) (s' : Shared) : Prop := ∃ H', Inv X pins σ H' s' ∧ Q b H'
def AP (X : Cx) (pins : List (Addr × Obj)) (σ : St) (Q : List V → Hp → Prop) (us : List Value) (s' : Shared) : Prop := ∃ vs H', Inv X pins σ H' s' ∧ Vals vs us ∧ Q vs H'
def SP (X : Cx) (pins : List (Addr × Obj)) (D : Ends) (f : Flow) (s' : Shared) : Prop :=
  match f with
  | .next => ∃ σ' H', Inv X pins σ' H' s' ∧ D.nx σ' H'
  | .brk => ∃ σ' H', Inv X pins σ' H' s' ∧ D.bk σ' H'
  | .cont => ∃ σ' H', Inv X pins σ' H' s' ∧ D.ct σ' H'
  | .ret u => ∃ v σ' H', Inv X pins σ' H' s' ∧ RelV v u ∧ D.rt v H'

def PE (X : Cx) (e : Expr) (t : TE) : Prop :=
  ∀ (pins : List (Addr × Obj)) (s : Shared) (σ : St) (H : Hp) (Q : VK), Inv X pins σ H s → t σ H Q → wpAny (model X.prog X.w) X.A (eval e X.env) (EP X pins σ Q) X.xe s
def PT (X : Cx) (e : Expr) (t : TT) : Prop :=
  ∀ (pins : List (Addr × Obj)) (s : Shared) (σ : St) (H : Hp) (Q : Bool → Hp → Prop), Inv X pins σ H s → t σ H Q → wpAny (model X.prog X.w) X.A (isTrue e X.env (eval e X.env)) (TP X pins σ Q) X.xe s
/-- a test whatever its 'whole' is (and, or) -/
def PW (X : Cx) (e : Expr) (t : TT) : Prop :=
  ∀ (whole : Sem Value) (pins : List (Addr × Obj)) (s : Shared) (σ : St) (H : Hp) (Q : Bool → Hp → Prop), Inv X pins σ H s → t σ H Q → wpAny (model X.prog X.w) X.A (isTrue e X.env whole) (TP X pins σ Q) X.xe s
theorem PW.pt {X : Cx} {e : Expr} {t : TT} (h : PW X e t) : PT X e t := h _
/-- an argument list (no star), from the left -/
def PA (X : Cx) (es : List Expr) (t : TA) : Prop :=
  ∀ (pos : Pos) (pins : List (Addr × Obj)) (s : Shared) (σ : St) (H : Hp) (Q : List V → Hp → Prop), Inv X pins σ H s → t σ H Q → wpAny (model X.prog X.w) X.A (spliced (backTo pos (starEach es X.env))) (AP X pins σ Q) X.xe s
def PS (X : Cx) (st : Stmt) (t : TS) : Prop :=
  ∀ (pins : List (Addr × Obj)) (s : Shared) (σ : St) (H : Hp) (D : Ends), Inv X pins σ H s → t D σ H → wpAny (model X.prog X.w) X.A (exec st X.env) (SP X pins D) X.xe s
def PSs (X : Cx) (st : List Stmt) (t : TS) : Prop :=
  ∀ (pins : List (Addr × Obj)) (s : Shared) (σ : St) (H : Hp) (D : Ends), Inv X pins σ H s → t D σ H → wpAny (model X.prog X.w) X.A (execs st X.env) (SP X pins D) X.xe s
/-- weaken the end -/
theorem thn {α : Type} {t : Sem α} {Q Q' : α → Shared → Prop} {M : Model} {A : Around} {E : Value → Shared → Prop} {s : Shared} (h : wpAny M A t Q E s) (hQ : ∀ a s, Q a s → Q' a s) : wpAny M A t Q' E s := wpAny_mono h hQ fun _ _ x => x
end L2

namespace L2
open PySem PySem.Spec PyProof.Rows
section
variable {X : Cx}

/-- two expressions in a row -/
theorem bin {a b : Expr} {ta tb : TE} (ha : PE X a ta) (hb : PE X b tb) {pins : List (Addr × Obj)} {s : Shared} {σ : St} {H : Hp} {R : V → V → Hp → Prop} (I : Inv X pins σ H s) (h : ta σ H fun x H1 => tb σ H1 fun y H2 => R x y H2)
    {α : Type} {Q : α → Shared → Prop} {f : Value → Value → Sem α}
    (hf : ∀ v u s2 x y H2, Inv X pins σ H2 s2 → RelV x v → RelV y u → R x y H2 → wpAny (model X.prog X.w) X.A (f v u) Q X.xe s2) :
    wpAny (model X.prog X.w) X.A (eval a X.env) (fun v s₁ => wpAny (model X.prog X.w) X.A (eval b X.env) (fun u s₂ => wpAny (model X.prog X.w) X.A (f v u) Q X.xe s₂) X.xe s₁) X.xe s := by
  refine thn (ha pins s σ H _ I h) fun v s1 ⟨x, H1, I1, r1, q1⟩ => ?_
  refine thn (hb pins s1 σ H1 _ I1 q1) fun u s2 ⟨y, H2, I2, r2, q2⟩ => ?_
  exact hf v u s2 x y H2 I2 r1 r2 q2

def tVar (i : Nat) : TE := fun σ H Q => ∃ v, σ[i]? = some (some v) ∧ Q v H
def tC (v : V) : TE := fun _ H Q => Q v H
theorem pe_var {i : Nat} {x : Str} {pos : Pos} (hN : X.N[i]? = some x) (hv : Vis X.env.scope x) (hd : (x == ("__debug__" : Str)) = false := by decide) (hcd : (x == ("__classdict__" : Str)) = false := by decide) : PE X (.Name x pos) (tVar i) := by
  intro pins s σ H Q I h
  obtain ⟨v, e, h⟩ := h
  obtain ⟨m, hn, hl⟩ := I.loc
  obtain ⟨u, r, l⟩ := hl i x v hN e hv
  have fin : EP X pins σ Q u s := ⟨v, H, I, r, h⟩
  rcases l with ⟨hk, hm⟩ | ⟨hk, c, hc, hcell⟩
  · exact wpAny_Name (wpAny_loadName_local I.ok.kind hk hn hm fin) hd
  · rcases hk with hk | hk
    · exact wpAny_Name (wpAny_loadName_cell I.ok.kind hk hc hcell fin) hd
    · exact wpAny_Name (wpAny_loadName_free I.ok.kind hk hc hcell fin hcd) hd
theorem pe_int {i j pos} : PE X (.Constant (.int i) j pos) (tC (.int i)) := fun _ _ _ H _ I h => wpAny_Constant_int ⟨.int i, H, I.tok _, ⟨_, rfl⟩, h⟩
theorem pe_bl {b j pos} : PE X (.Constant (.bool b) j pos) (tC (.bl b)) := fun _ _ _ H _ I h => Constant_bool ⟨.bl b, H, I, rfl, h⟩
theorem pe_non {j pos} : PE X (.Constant .none j pos) (tC .non) := fun _ _ _ H _ I h => Constant_none ⟨.non, H, I, rfl, h⟩
theorem pe_str {x j pos} : PE X (.Constant (.str x) j pos) (tC (.str x)) := fun _ _ _ H _ I h => Calls.Constant_str ⟨.str x, H, I.tok _, ⟨_, rfl⟩, h⟩

/-- a global name of the def -/
def Gl (X : Cx) (x : Str) : Prop := X.env.kindOf x = some .globalImplicit
theorem ld_glob {E : Value → Shared → Prop} {pins : List (Addr × Obj)} {s : Shared} {σ : St} {H : Hp} {x : Str} {u : Value} {pos : Pos} {Q : Value → Shared → Prop} (I : Inv X pins σ H s) (hg : Gl X x) (hm : X.mg x = some u) (h : Q u s)
    (hd : (x == ("__debug__" : Str)) = false := by decide) : wpAny (model X.prog X.w) X.A (eval (.Name x pos) X.env) Q E s :=
  Calls.Name_function_global I.ok.kind hg (Calls.loadGlobal_global (by rw [I.ok.glob]; exact I.mod.glob.keeps I.bk) hm h) hd
theorem ld_blt {E : Value → Shared → Prop} {pins : List (Addr × Obj)} {s : Shared} {σ : St} {H : Hp} {x : Str} {u : Value} {pos : Pos} {Q : Value → Shared → Prop} (I : Inv X pins σ H s) (hg : Gl X x) (hm : X.mg x = none) (hv : bootBuiltins x = some u) (h : Q u s)
    (hn : x ≠ "__name__" := by decide) (hd : (x == ("__debug__" : Str)) = false := by decide) : wpAny (model X.prog X.w) X.A (eval (.Name x pos) X.env) Q E s := by
  obtain ⟨mb, h1, h2⟩ := I.mod.blt
  exact Calls.Name_function_global I.ok.kind hg (Calls.loadGlobal_builtin (by rw [I.ok.glob]; exact I.mod.glob.keeps I.bk) hm (by rw [I.ok.blt]; exact h1.keeps I.bk) ((h2 x hn).trans hv) h) hd
/-- a module's constant, a class, a function, as a value -/
theorem pe_glob {x : Str} {v : V} {u : Value} {pos : Pos} (hg : Gl X x) (hm : X.mg x = some u) (r : RelV v u) (hd : (x == ("__debug__" : Str)) = false := by decide) : PE X (.Name x pos) (tC v) :=
  fun _ _ _ H _ I h => ld_glob I hg hm ⟨v, H, I, r, h⟩ hd
theorem pe_bltn {x : Str} {v : V} {u : Value} {pos : Pos} (hg : Gl X x) (hm : X.mg x = none) (hv : bootBuiltins x = some u) (r : RelV v u) (hn : x ≠ "__name__" := by decide) (hd : (x == ("__debug__" : Str)) = false := by decide) : PE X (.Name x pos) (tC v) :=
  fun _ _ _ H _ I h => ld_blt I hg hm hv ⟨v, H, I, r, h⟩ hn hd

variable {a b : Expr} {ta tb : TE} {pos : Pos}
/-- a comparison as a value, as a test -/
def tB (t : TE) : TT := fun σ H Q => t σ H fun x H1 => ∃ c, x = .bl c ∧ Q c H1
/-- an expression whose value is a bool, as a test -/
theorem pt_val {e : Expr} {t : TE} (h : PE X e t) (he : ∀ whole, isTrue e X.env whole = (do let v ← whole; standAt e.pos; holding [v] (truthy v)) := by intro _; rfl) : PT X e (tB t) := by
  intro pins s σ H Q I hw
  refine isTrue_plain (thn (h pins s σ H _ I hw) fun v s1 ⟨x, H1, I1, r1, q1⟩ => ?_) (he _)
  obtain ⟨d, rfl, q⟩ := q1
  cases r1
  exact wpAny_truthy_bool ⟨H1, I1, q⟩

variable {tA tB' : TT} {rest : List Expr}
def tAnd (t u : TT) : TT := fun σ H Q => t σ H fun c H1 => if c = true then u σ H1 Q else Q false H1
def tOr (t u : TT) : TT := fun σ H Q => t σ H fun c H1 => if c = true then Q true H1 else u σ H1 Q
def tNot (t : TT) : TT := fun σ H Q => t σ H fun c H1 => Q (!c) H1
theorem pw_and1 (ha : PT X a tA) : PW X (.BoolOp .And [a] pos) tA := by
  intro wh pins s σ H Q I h
  refine isTrue_and (thn (ha pins s σ H Q I h) fun c s1 e => ?_)
  cases c with
  | true => exact isTrue_and_nil e
  | false => exact e
theorem pw_or1 (ha : PT X a tA) : PW X (.BoolOp .Or [a] pos) tA := by
  intro wh pins s σ H Q I h
  refine isTrue_or (thn (ha pins s σ H Q I h) fun c s1 e => ?_)
  cases c with
  | false => exact isTrue_or_nil e
  | true => exact e
theorem pw_and (ha : PT X a tA) (hb : PW X (.BoolOp .And (b :: rest) pos) tB') : PW X (.BoolOp .And (a :: b :: rest) pos) (tAnd tA tB') := by
  intro wh pins s σ H Q I h
  refine isTrue_and (thn (ha pins s σ H _ I h) fun c s1 ⟨H1, I1, q1⟩ => ?_)
  cases c with
  | true => exact hb wh pins s1 σ H1 Q I1 q1
  | false => exact ⟨H1, I1, q1⟩
theorem pw_or (ha : PT X a tA) (hb : PW X (.BoolOp .Or (b :: rest) pos) tB') : PW X (.BoolOp .Or (a :: b :: rest) pos) (tOr tA tB') := by
  intro wh pins s σ H Q I h
  refine isTrue_or (thn (ha pins s σ H _ I h) fun c s1 ⟨H1, I1, q1⟩ => ?_)
  cases c with
  | true => exact ⟨H1, I1, q1⟩
  | false => exact hb wh pins s1 σ H1 Q I1 q1
theorem pt_not (ha : PT X a tA) : PT X (.UnaryOp .Not a pos) (tNot tA) := by
  intro pins s σ H Q I h
  exact isTrue_not (ha pins s σ H (fun c H1 => Q (!c) H1) I h)
/-- .. as values (bools) -/
def tAndV (ta tb : TE) : TE := fun σ H Q => ta σ H fun x H1 => ∃ c, x = .bl c ∧ if c = true then tb σ H1 Q else Q (.bl false) H1
def tNotV (ta : TE) : TE := fun σ H Q => ta σ H fun x H1 => ∃ c, x = .bl c ∧ Q (.bl (!c)) H1
theorem pe_one {op} {t : TE} (h : PE X a t) : PE X (.BoolOp op [a] pos) t := fun pins s σ H Q I hw => BoolOp_one (h pins s σ H Q I hw)
theorem pe_and (ha : PE X a ta) (hb : PE X (.BoolOp .And (b :: rest) pos) tb) : PE X (.BoolOp .And (a :: b :: rest) pos) (tAndV ta tb) := by
  intro pins s σ H Q I h
  refine BoolOp_and (thn (ha pins s σ H _ I h) fun v s1 ⟨x, H1, I1, r1, q1⟩ => ?_)
  obtain ⟨c, rfl, q1⟩ := q1
  cases r1
  refine wpAny_truthy_bool ?_
  cases c with
  | true => exact hb pins s1 σ H1 Q I1 q1
  | false => exact ⟨.bl false, H1, I1, rfl, q1⟩
theorem pe_not (ha : PE X a ta) : PE X (.UnaryOp .Not a pos) (tNotV ta) := by
  intro pins s σ H Q I h
  refine UnaryOp_ (thn (ha pins s σ H _ I h) fun v s1 ⟨x, H1, I1, r1, q1⟩ => ?_)
  obtain ⟨c, rfl, q1⟩ := q1
  cases r1
  exact not_of (wpAny_truthy_bool ⟨.bl (!c), H1, I1, rfl, q1⟩)
/-- a if t else b -/
def tIf (t : TT) (ta tb : TE) : TE := fun σ H Q => t σ H fun c H1 => if c = true then ta σ H1 Q else tb σ H1 Q
theorem pe_ifExp {c : Expr} (hc : PT X c tA) (ha : PE X a ta) (hb : PE X b tb) : PE X (.IfExp c a b pos) (tIf tA ta tb) := by
  intro pins s σ H Q I h
  refine wpAny_IfExp (thn (hc pins s σ H _ I h) fun d s1 ⟨H1, I1, q1⟩ => ?_)
  cases d with
  | true => exact ha pins s1 σ H1 Q I1 q1
  | false => exact hb pins s1 σ H1 Q I1 q1
end
end L2

namespace L2
open PySem PySem.Spec PyProof.Rows

def SqL (K : PySem.W.Frag) (H : Hp) (a : Addr) (xs : List V) : Prop :=
  Rd H a (.lst xs) ∨
    ∃ (o : Obj) (its : Array Value) (n : Nat), K.lookup a = some o ∧ o.cls = .type "list" ∧ o.dict = none ∧ o.data = .seq its n ∧ its.size ≤ sizeLine ∧ Vals xs its.toList
def SqT (K : PySem.W.Frag) (H : Hp) (a : Addr) (xs : List V) : Prop :=
  Rd H a (.tup xs) ∨
    ∃ (o : Obj) (its : Array Value) (n : Nat), K.lookup a = some o ∧ o.cls = .type "tuple" ∧ o.data = .seq its n ∧ its.size ≤ sizeLine ∧ Vals xs its.toList
def absV : Value → Option V
  | .none => some .non
  | .bool b => some (.bl b)
  | .int i _ => some (.int i)
  | .str x _ => some (.str x)
  | .bytes b _ => some (.byt b)
  | .float b _ => some (.flt b)
  | .ref a => some (.ref a)
  | .type n => some (.ty n)
  | _ => none
theorem RelV.abs {x : V} {u : Value} (r : RelV x u) : absV u = some x := by
  cases x with
  | non => cases r; rfl
  | bl _ => cases r; rfl
  | int _ => obtain ⟨t, rfl⟩ := r; rfl
  | str _ => obtain ⟨t, rfl⟩ := r; rfl
  | byt _ => obtain ⟨t, rfl⟩ := r; rfl
  | flt _ => obtain ⟨t, rfl⟩ := r; rfl
  | ref _ => cases r; rfl
  | ty _ => cases r; rfl
theorem RelV.inj {x y : V} {u : Value} (r : RelV x u) (q : RelV y u) : x = y := Option.some.inj (r.abs.symm.trans q.abs)
theorem Vals.inj : ∀ {xs ys : List V} {us : List Value}, Vals xs us → Vals ys us → xs = ys
  | _, _, _, .nil, .nil => rfl
  | _, _, _, .cons r t, .cons r' t' => by rw [r.inj r', Vals.inj t t']
section
variable {X : Cx} {pins : List (Addr × Obj)} {σ : St} {H : Hp} {s : Shared} {a : Addr} {xs ys : List V}
theorem SqL.of {K : PySem.W.Frag} (h : H a = some (.lst xs)) : SqL K H a xs := .inl (.inl h)
theorem SqT.of {K : PySem.W.Frag} (h : H a = some (.tup xs)) : SqT K H a xs := .inl (.inl h)
theorem Inv.list (I : Inv X pins σ H s) (h : SqL X.K H a xs) : ∃ its : List Value, Vals xs its ∧ PlainL s.heap a its.toArray ∧ xs.length ≤ sizeLine := by
  rcases h with h | ⟨o, its, n, hk, hc, hd, hs, hz, r⟩
  · obtain ⟨z, its, n, r, e⟩ := h.ok I.hok
    exact ⟨its, r, ⟨_, n, e, rfl, rfl, rfl⟩, z⟩
  · refine ⟨its.toList, r, ⟨o, n, I.kIn a o hk, hc, hd, by simpa using hs⟩, ?_⟩
    have e := r.length
    simp only [Array.length_toList] at e
    omega
theorem Inv.tuple (I : Inv X pins σ H s) (h : SqT X.K H a xs) : ∃ its : List Value, Vals xs its ∧ IsTup s.heap a its.toArray ∧ xs.length ≤ sizeLine := by
  rcases h with h | ⟨o, its, n, hk, hc, hs, hz, r⟩
  · obtain ⟨z, its, r, p⟩ := h.ok I.hok
    exact ⟨its, r, p, z⟩
  · refine ⟨its.toList, r, ⟨o, I.kIn a o hk, hc, n, by simpa using hs⟩, ?_⟩
    have e := r.length
    simp only [Array.length_toList] at e
    omega
theorem Inv.list_inj (I : Inv X pins σ H s) (h : SqL X.K H a xs) (h' : SqL X.K H a ys) : xs = ys := by
  obtain ⟨its, r, ⟨o, n, e, _, _, d⟩, _⟩ := I.list h
  obtain ⟨its', r', ⟨o', n', e', _, _, d'⟩, _⟩ := I.list h'
  rw [e] at e'; cases e'
  rw [d] at d'
  injection d' with d1 _
  have : its = its' := by simpa using congrArg Array.toList d1
  subst this
  exact r.inj r'
theorem Inv.tuple_inj (I : Inv X pins σ H s) (h : SqT X.K H a xs) (h' : SqT X.K H a ys) : xs = ys := by
  obtain ⟨its, r, ⟨o, e, _, n, d⟩, _⟩ := I.tuple h
  obtain ⟨its', r', ⟨o', e', _, n', d'⟩, _⟩ := I.tuple h'
  rw [e] at e'; cases e'
  rw [d] at d'
  injection d' with d1 _
  have : its = its' := by simpa using congrArg Array.toList d1
  subst this
  exact r.inj r'
end

abbrev Cx.wish (X : Cx) (E : Value → Shared → Prop) : Cx := { X with xe := E }
/-- no exception leaves -/
abbrev Cx.nox (X : Cx) : Cx := X.wish fun _ _ => False
theorem Cx.Ok.wish {X : Cx} (ok : X.Ok) (E : Value → Shared → Prop) : (X.wish E).Ok :=
  ⟨ok.mod, ok.kind, ok.glob, ok.blt, ok.above, ok.inj, ok.has, ok.cab, ok.hd, ok.frames, ok.stk, ok.exf, ok.bs, ok.bsz, ok.noex, ok.exfs, ok.funs, ok.frf⟩
theorem Cx.Ok.unwish {X : Cx} {E : Value → Shared → Prop} (ok : (X.wish E).Ok) : X.Ok :=
  ⟨ok.mod, ok.kind, ok.glob, ok.blt, ok.above, ok.inj, ok.has, ok.cab, ok.hd, ok.frames, ok.stk, ok.exf, ok.bs, ok.bsz, ok.noex, ok.exfs, ok.funs, ok.frf⟩
section
variable {X : Cx} {pins : List (Addr × Obj)} {σ : St} {H : Hp} {s : Shared} {E : Value → Shared → Prop}
theorem Inv.wish (I : Inv X pins σ H s) (E : Value → Shared → Prop) : Inv (X.wish E) pins σ H s := ⟨I.ok.wish E, I.os, I.bare, I.base, I.loc, I.cell, I.free, I.freeC, I.pin, I.hok, I.len⟩
theorem Inv.unwish (I : Inv (X.wish E) pins σ H s) : Inv X pins σ H s := ⟨I.ok.unwish, I.os, I.bare, I.base, I.loc, I.cell, I.free, I.freeC, I.pin, I.hok, I.len⟩
theorem SP.unwish {D : Ends} {f : Flow} {s' : Shared} (h : SP (X.wish E) pins D f s') : SP X pins D f s' := by
  cases f with
  | next => obtain ⟨σ', H', I, q⟩ := h; exact ⟨σ', H', I.unwish, q⟩
  | brk => obtain ⟨σ', H', I, q⟩ := h; exact ⟨σ', H', I.unwish, q⟩
  | cont => obtain ⟨σ', H', I, q⟩ := h; exact ⟨σ', H', I.unwish, q⟩
  | ret u => obtain ⟨v, σ', H', I, r, q⟩ := h; exact ⟨v, σ', H', I.unwish, r, q⟩
theorem PSs.nox {st : List Stmt} {t : TS} (h : PSs X.nox st t) : PSs X st t := fun pins s σ H D I hw =>
  wpAny_mono (h pins s σ H D (I.wish _) hw) (fun _ _ q => q.unwish) fun _ _ z => False.elim z
end

section
variable {X : Cx} {st : Stmt} {rest : List Stmt} {t u : TS} {e : Expr} {te : TE} {pos : Pos}
def tNext : TS := fun D σ H => D.nx σ H
def tSeq (t u : TS) : TS := fun D σ H => t { D with nx := u D } σ H
theorem pss_nil : PSs X [] tNext := fun _ _ σ H _ I h => wpAny_execs_nil ⟨σ, H, I, h⟩
theorem pss_cons (h1 : PS X st t) (h2 : PSs X rest u) : PSs X (st :: rest) (tSeq t u) := by
  intro pins s σ H D I h
  refine wpAny_execs_cons (thn (h1 pins s σ H { D with nx := u D } I h) fun f s1 q => ?_)
  cases f with
  | next =>
    obtain ⟨σ', H', I', q⟩ := q
    exact h2 pins s1 σ' H' D I' q
  | ret v => exact q
  | brk => exact q
  | cont => exact q
theorem pss_one (h1 : PS X st t) : PSs X [st] t := by
  intro pins s σ H D I h
  refine wpAny_execs_cons (thn (h1 pins s σ H D I h) fun f s1 q => ?_)
  cases f with
  | next => exact wpAny_execs_nil q
  | ret v => exact q
  | brk => exact q
  | cont => exact q
/-- in a def's body nothing is shown -/
theorem Inv.quiet {pins : List (Addr × Obj)} {σ : St} {H : Hp} {s : Shared} (I : Inv X pins σ H s) : interactive X.env = false := by simp [interactive, I.ok.kind]
/-- an expression whose value is dropped -/
def tDrop (te : TE) : TS := fun D σ H => te σ H fun _ H1 => D.nx σ H1
theorem ps_expr (he : PE X e te) (hs : swapsWith e none pos.line X.env = pure false := by rfl) : PS X (.Expr e pos) (tDrop te) := by
  intro pins s σ H D I h
  exact wpAny_Expr_any (thn (he pins s σ H _ I h) fun v s1 ⟨x, H1, I1, r1, q1⟩ => ⟨σ, H1, I1, q1⟩) I.quiet hs
def tRet (te : TE) : TS := fun D σ H => te σ H D.rt
theorem ps_ret (he : PE X e te) : PS X (.Return (some e) pos) (tRet te) := by
  intro pins s σ H D I h
  exact wpAny_Return_some (thn (he pins s σ H _ I h) fun v s1 ⟨x, H1, I1, r1, q1⟩ => ⟨x, σ, H1, I1, r1, q1⟩)
def tIfS (c : TT) (t u : TS) : TS := fun D σ H => c σ H fun b H1 => if b = true then t D σ H1 else u D σ H1
theorem ps_if {c : Expr} {a b : List Stmt} {tc : TT} (hc : PT X c tc) (ha : PSs X a t) (hb : PSs X b u) : PS X (.If c a b pos) (tIfS tc t u) := by
  intro pins s σ H D I h
  refine wpAny_If (thn (hc pins s σ H _ I h) fun d s1 ⟨H1, I1, q1⟩ => ?_)
  cases d with
  | true => exact ha pins s1 σ H1 D I1 q1
  | false => exact hb pins s1 σ H1 D I1 q1
/-- code that the proof never comes to -/
def tNever : TS := fun _ _ _ => False
theorem ps_never : PS X st tNever := fun _ _ _ _ _ _ h => h.elim
end

abbrev TG := V → St → Hp → (St → Hp → Prop) → Prop
abbrev TGs := List V → St → Hp → (St → Hp → Prop) → Prop
def PG (X : Cx) (target : Expr) (t : TG) : Prop :=
  ∀ (pins : List (Addr × Obj)) (s : Shared) (σ : St) (H : Hp) (v : V) (u : Value) (Q : St → Hp → Prop), Inv X pins σ H s → RelV v u → t v σ H Q →
    wpAny (model X.prog X.w) X.A (assign target X.env u) (fun _ s' => ∃ σ' H', Inv X pins σ' H' s' ∧ Q σ' H') X.xe s
/-- several targets, one after another -/
def PGs (X : Cx) (ts : List Expr) (t : TGs) : Prop :=
  ∀ (pins : List (Addr × Obj)) (s : Shared) (σ : St) (H : Hp) (vs : List V) (us : List Value) (Q : St → Hp → Prop), Inv X pins σ H s → Vals vs us → t vs σ H Q →
    wpAny (model X.prog X.w) X.A (assignInOrder ((assignEach ts X.env).map (·.2)) us) (fun _ s' => ∃ σ' H', Inv X pins σ' H' s' ∧ Q σ' H') X.xe s
section
variable {X : Cx} {pos : Pos}
def gName (i : Nat) : TG := fun v σ H Q => Q (σ.set i (some v)) H
theorem pg_name {i : Nat} {x : Str} (hN : X.N.Nodup) (hi : X.N[i]? = some x) (hx : Loc X.env.scope x) (hf : X.fn x = true ∨ X.env.scope.names.lookup x = some .local := by first | exact .inl rfl | exact .inr rfl | assumption) : PG X (.Name x pos) (gName i) := by
  intro pins s σ H v u Q I r h
  exact wpAny_assign_Name (store_ok I hN hi hx r (fun s' I' => ⟨_, H, I', h⟩) hf)
def gNil : TGs := fun vs σ H Q => vs = [] ∧ Q σ H
def gCons (t : TG) (u : TGs) : TGs := fun vs σ H Q => ∃ v r, vs = v :: r ∧ t v σ H fun σ' H' => u r σ' H' Q
theorem pgs_nil : PGs X [] gNil := by
  intro pins s σ H vs us Q I r h
  obtain ⟨e, h⟩ := h
  subst e
  cases r
  exact assignInOrder_nil ⟨σ, H, I, h⟩
theorem pgs_cons {e : Expr} {es : List Expr} {t : TG} {u : TGs} (h1 : PG X e t) (h2 : PGs X es u)
    (hs : (assignEach (e :: es) X.env).map (·.2) = assign e X.env :: (assignEach es X.env).map (·.2) := by rfl) : PGs X (e :: es) (gCons t u) := by
  intro pins s σ H vs us Q I r h
  obtain ⟨v, vr, e1, h⟩ := h
  subst e1
  cases r with
  | cons r rr =>
    rw [hs]
    refine assignInOrder_cons (thn (h1 pins s σ H _ _ _ I r h) fun _ s1 ⟨σ1, H1, I1, q1⟩ => ?_)
    exact h2 pins s1 σ1 H1 _ _ Q I1 rr q1
/-- (a, b, ..) = a tuple of that length -/
def gTup (K : PySem.W.Frag) (n : Nat) (t : TGs) : TG := fun v σ H Q => ∃ a xs, v = .ref a ∧ SqT K H a xs ∧ xs.length = n ∧ t xs σ H Q
theorem pg_tup {es : List Expr} {k : Nat} {t : TGs} {n : Nat} (hc : X.calm = true) (h : PGs X es t)
    (hn : (assignEach es X.env).length = n := by rfl) (hst : (assignEach es X.env).findIdx? (·.1) = none := by rfl) : PG X (.Tuple es k pos) (gTup X.K n t) := by
  intro pins s σ H v u Q I r hw
  obtain ⟨a, xs, e1, hq, hl, hw⟩ := hw
  subst e1
  cases r
  obtain ⟨its, rv, ht, hz⟩ := I.tuple hq
  refine assign_Tuple_tuple (I.ok.hd hc) ht (by simp [hn, ← hl, rv.length]) hst fun h' hx => ?_
  have I1 : Inv X pins σ H { s with heap := h' } := I.kept (t' := s.toks) fun b o e => hx b o (Nat.ne_of_lt (Heap.lt_size e)) e
  exact h pins _ σ H xs _ Q I1 (by simpa using rv) hw
/-- target = value -/
def tAsg (te : TE) (g : TG) : TS := fun D σ H => te σ H fun x H1 => g x σ H1 D.nx
theorem ps_asg {tg e : Expr} {te : TE} {g : TG} (he : PE X e te) (hg : PG X tg g) (hs : swapsWithSole [tg] e pos.line X.env = pure false := by rfl) (hw : swappedStores [tg] e X.env = pure none := by rfl)
    (h1 : (assignEach [tg] X.env).map (·.2) = [assign tg X.env] := by rfl) : PS X (.Assign [tg] e pos) (tAsg te g) := by
  intro pins s σ H D I h
  refine wpAny_Assign_stores (thn (he pins s σ H _ I h) fun v s1 ⟨x, H1, I1, r1, q1⟩ => ?_) hs hw
  rw [h1]
  exact thn (hg pins s1 σ H1 x v _ I1 r1 q1) fun _ s2 q => q
/-- name = value -/
theorem ps_set {i : Nat} {x : Str} {e : Expr} {te : TE} {pos' : Pos} (hN : X.N.Nodup) (hi : X.N[i]? = some x) (hx : Loc X.env.scope x) (he : PE X e te) (hs : swapsWith e (some (.Name x pos')) pos.line X.env = pure false := by rfl) (hf : X.fn x = true ∨ X.env.scope.names.lookup x = some .local := by first | exact .inl rfl | exact .inr rfl | assumption) :
    PS X (.Assign [.Name x pos'] e pos) (tAsg te (gName i)) := by
  intro pins s σ H D I h
  refine wpAny_Assign_Name (thn (he pins s σ H _ I h) fun v s1 ⟨y, H1, I1, r1, q1⟩ => ?_) hs
  exact store_ok I1 hN hi hx r1 (fun s2 I2 => ⟨_, H1, I2, q1⟩) hf
end

section
variable {X : Cx} {pos : Pos}
end

/-- at turn i: it yields x (the heap may grow), or it stops -/
structure It where
  go : Nat → Hp → Prop
  yld : Nat → Hp → V → Hp → Prop
  stop : Nat → Hp → Prop
/-- the iterator's own objects may turn: they are not the frame's, not pinned, younger than the entry (or a comprehension's own) -/
def FpOk (X : Cx) (pins : List (Addr × Obj)) (H : Hp) (b : Addr) : Prop :=
  H b = none ∧ b ≠ X.env.locals ∧ b ∉ X.fs ∧ (b ∈ X.ex ∨ X.s₀.heap.objs.size ≤ b) ∧ (∀ x c, X.env.cells.lookup x = some c → c ≠ b) ∧ ∀ p ∈ X.pn ++ pins, p.1 ≠ b
theorem Inv.fpOk {X : Cx} {pins : List (Addr × Obj)} {σ : St} {H H' : Hp} {s : Shared} {b : Addr} (I : Inv X pins σ H s) (hb : s.heap.objs.size ≤ b) (hn : H' b = none) : FpOk X pins H' b := by
  refine ⟨hn, Nat.ne_of_gt (Nat.lt_of_lt_of_le I.lt hb), I.nofs hb, .inr (Nat.le_trans I.sz hb), fun x c e z => ?_, fun p hp z => ?_⟩
  · obtain ⟨v, q⟩ := I.cell x c e
    exact absurd (Nat.lt_of_lt_of_le q.lt (by rw [z]; exact hb)) (Nat.lt_irrefl _)
  · exact absurd (Nat.lt_of_lt_of_le (Heap.lt_size (I.pin p hp).1) (by rw [z]; exact hb)) (Nat.lt_irrefl _)
structure Turn (P : Program) (w : World) (K : PySem.W.Frag) (tg : Expr) (J : It) (fp : List Addr) (it : Addr) (tn : Nat → Heap → Prop) : Prop where
  mem : it ∈ fp
  obj : ∀ i h, tn i h → ∀ b ∈ fp, ∃ o, h.get? b = some o ∧ ∀ v, o.data ≠ .cell v
  keep : ∀ i h h', tn i h → (∀ b ∈ fp, ∀ o, h.get? b = some o → h'.get? b = some o) → tn i h'
  item : ∀ (X : Cx), X.prog = P → X.w = w → X.K = K → X.calm = true → ∀ (i : Nat) (pins : List (Addr × Obj)) (s : Shared) (σ : St) (H : Hp) (E : Value → Shared → Prop), Inv X pins σ H s → (∀ b ∈ fp, FpOk X pins H b) → tn i s.heap → J.go i H →
    wpAny (model P w) X.A (pyNext (.ref it)) (fun r s1 => ∃ u, r = some u ∧
      wpAny (model P w) X.A (letOwnedTupleGo tg (.ref it) u) (fun _ s2 => ∃ x H', Inv X pins σ H' s2 ∧ RelV x u ∧ J.yld i H x H' ∧ tn (i + 1) s2.heap ∧ ∀ b ∈ fp, H' b = none) E s1) E s
  done : ∀ (X : Cx), X.prog = P → X.w = w → X.K = K → X.calm = true → ∀ (i : Nat) (pins : List (Addr × Obj)) (s : Shared) (σ : St) (H : Hp) (E : Value → Shared → Prop), Inv X pins σ H s → (∀ b ∈ fp, FpOk X pins H b) → tn i s.heap → J.stop i H →
    wpAny (model P w) X.A (pyNext (.ref it)) (fun r s1 => r = none ∧ Inv X pins σ H s1) E s
  self : ∀ (A : Around) (i : Nat) (s : Shared) (Q : Value → Shared → Prop) (E : Value → Shared → Prop), tn i s.heap → Q (.ref it) s → wpAny (model P w) A (pyIter (.ref it)) Q E s
abbrev TI := St → Hp → (It → Hp → Prop) → Prop
/-- an iterator has come -/
def PIE (X : Cx) (pins : List (Addr × Obj)) (σ : St) (tg : Expr) (R : It → Hp → Prop) (itv : Value) (s2 : Shared) : Prop :=
  ∃ (it : Addr) (fp : List Addr) (tn : Nat → Heap → Prop) (J : It) (H' : Hp), itv = .ref it ∧ Inv X pins σ H' s2 ∧ Turn X.prog X.w X.K tg J fp it tn ∧ tn 0 s2.heap ∧ (∀ b ∈ fp, FpOk X pins H' b) ∧ R J H'
def PI (X : Cx) (tg iter : Expr) (wi : TI) : Prop :=
  ∀ (pins : List (Addr × Obj)) (s : Shared) (σ : St) (H : Hp) (R : It → Hp → Prop), Inv X pins σ H s → wi σ H R →
    wpAny (model X.prog X.w) X.A (eval iter X.env) (fun v s1 => wpAny (model X.prog X.w) X.A (pyIter v) (PIE X pins σ tg R) X.xe s1) X.xe s

/-- the step ahead of the store is nothing for an iterator that keeps no tuple -/
theorem go_of {M : Model} {A : Around} {E : Value → Shared → Prop} {s : Shared} {tg : Expr} {it : Addr} {u : Value} {o : Obj} {n : String} {vs : Array Value} {Q : Unit → Shared → Prop} (ho : s.heap.get? it = some o) (hc : o.cls = .type n) (hd : o.data = .fields vs)
    (hn : ["enumerate", "zip", "dict_itemiterator", "dict_reverseitemiterator", "odict_iterator", "itertools.zip_longest", "itertools.pairwise"].contains n = false) (hQ : Q () s) : wpAny M A (letOwnedTupleGo tg (.ref it) u) Q E s := by
  unfold letOwnedTupleGo
  cases tg <;> first
    | exact wpAny_pure hQ
    | (cases u <;> first
        | exact wpAny_pure hQ
        | (refine wpAny_bind (wpAny_load ho ?_)
           rw [hc, hd]
           show wpAny M A (if (["enumerate", "zip", "dict_itemiterator", "dict_reverseitemiterator", "odict_iterator", "itertools.zip_longest", "itertools.pairwise"].contains n && vs[0]? == some (rawInt _)) = true then _ else _) Q E s
           rw [if_neg (by intro h; rw [hn, Bool.false_and] at h; cases h)]
           exact wpAny_pure hQ))

/-- the list at a, as it stands at each turn (a loop may append to it) -/
def Itl (K : PySem.W.Frag) (a : Addr) : It :=
  ⟨fun i H => ∃ xs x, SqL K H a xs ∧ xs[i]? = some x, fun i H x H' => H' = H ∧ ∀ xs, SqL K H a xs → xs[i]? = some x, fun i H => ∃ xs, SqL K H a xs ∧ xs.length ≤ i⟩
def Itt (K : PySem.W.Frag) (a : Addr) : It :=
  ⟨fun i H => ∃ xs x, SqT K H a xs ∧ xs[i]? = some x, fun i H x H' => H' = H ∧ ∀ xs, SqT K H a xs → xs[i]? = some x, fun i H => ∃ xs, SqT K H a xs ∧ xs.length ≤ i⟩
/-- lo, lo + 1, .. (n of them) -/
def Itr (lo : Int) (n : Nat) : It := ⟨fun i _ => i < n, fun i H x H' => H' = H ∧ x = .int (lo + i), fun i _ => n ≤ i⟩
theorem turn_list {P : Program} {w : World} {K : PySem.W.Frag} {tg : Expr} (a it : Addr) : Turn P w K tg (Itl K a) [it] it (fun i h => h.IsListIter it a i) where
  mem := by simp
  obj := fun i h st b hb => by
    have e : b = it := by simpa using hb
    subst e
    obtain ⟨o, e, c, d⟩ := st
    exact ⟨o, e, fun v z => by rw [d] at z; cases z⟩
  keep := fun i h h' st k => st.at fun o e => k it (by simp) o e
  item := by
    intro X hP hw hK hc i pins s σ H E I hf st hg
    subst hP hw hK
    obtain ⟨xs, x, hq, hx⟩ := hg
    obtain ⟨its, rv, p, hz⟩ := I.list hq
    obtain ⟨u, hu, ru⟩ := rv.get hx
    obtain ⟨f0, f1, f2, f3, f4, f5⟩ := hf it (by simp)
    refine wpAny_pyNext_list_item st p.isList (x := u) (by simpa using hu) fun h' st' sb => ?_
    have I1 : Inv X pins σ H { s with heap := h' } := I.turned (t' := s.toks) (fun b o hb e => (sb.2 b hb).trans e) f0 f1 f3 f4 f5
    obtain ⟨o, e, c, d⟩ := id st'
    exact ⟨u, rfl, go_of (s := { s with heap := h' }) e c d (by decide) ⟨x, H, I1, ru, ⟨rfl, fun ys hy => by rw [I.list_inj hy hq]; exact hx⟩, st', fun b hb => (hf b hb).1⟩⟩
  done := by
    intro X hP hw hK hc i pins s σ H E I hf st hg
    subst hP hw hK
    obtain ⟨xs, hq, hx⟩ := hg
    obtain ⟨its, rv, p, hz⟩ := I.list hq
    obtain ⟨f0, f1, f2, f3, f4, f5⟩ := hf it (by simp)
    have hl := rv.length
    exact wpAny_pyNext_list_end (I.ok.hd hc) st p.isList (by simp; omega) fun h' eb => ⟨rfl, I.turned (t' := s.toks) (fun b o hb e => eb b o hb e) f0 f1 f3 f4 f5⟩
  self := fun _ _ _ _ _ st h => wpAny_pyIter_listiter st h
theorem turn_tuple {P : Program} {w : World} {K : PySem.W.Frag} {tg : Expr} (a it : Addr) : Turn P w K tg (Itt K a) [it] it (fun i h => h.IsTupleIter it a i) where
  mem := by simp
  obj := fun i h st b hb => by
    have e : b = it := by simpa using hb
    subst e
    obtain ⟨o, e, c, d⟩ := st
    exact ⟨o, e, fun v z => by rw [d] at z; cases z⟩
  keep := fun i h h' st k => st.at fun o e => k it (by simp) o e
  item := by
    intro X hP hw hK hc i pins s σ H E I hf st hg
    subst hP hw hK
    obtain ⟨xs, x, hq, hx⟩ := hg
    obtain ⟨its, rv, p, hz⟩ := I.tuple hq
    obtain ⟨u, hu, ru⟩ := rv.get hx
    obtain ⟨f0, f1, f2, f3, f4, f5⟩ := hf it (by simp)
    refine wpAny_pyNext_tuple_item st (show s.heap.IsTuple a its.toArray from p) (x := u) (by simpa using hu) fun h' st' sb => ?_
    have I1 : Inv X pins σ H { s with heap := h' } := I.turned (t' := s.toks) (fun b o hb e => (sb.2 b hb).trans e) f0 f1 f3 f4 f5
    obtain ⟨o, e, c, d⟩ := id st'
    exact ⟨u, rfl, go_of (s := { s with heap := h' }) e c d (by decide) ⟨x, H, I1, ru, ⟨rfl, fun ys hy => by rw [I.tuple_inj hy hq]; exact hx⟩, st', fun b hb => (hf b hb).1⟩⟩
  done := by
    intro X hP hw hK hc i pins s σ H E I hf st hg
    subst hP hw hK
    obtain ⟨xs, hq, hx⟩ := hg
    obtain ⟨its, rv, p, hz⟩ := I.tuple hq
    obtain ⟨f0, f1, f2, f3, f4, f5⟩ := hf it (by simp)
    have hl := rv.length
    exact wpAny_pyNext_tuple_end (I.ok.hd hc) st (show s.heap.IsTuple a its.toArray from p) (by simp; omega) fun h' eb => ⟨rfl, I.turned (t' := s.toks) (fun b o hb e => eb b o hb e) f0 f1 f3 f4 f5⟩
  self := fun _ _ _ _ _ st h => wpAny_pyIter_tupleiter st h
theorem turn_range {P : Program} {w : World} {K : PySem.W.Frag} {tg : Expr} (it : Addr) (lo : Int) (n : Nat) : Turn P w K tg (Itr lo n) [it] it (fun i h => IsRangeIter h it (lo + (i : Nat) * 1) ((n : Int) - (i : Nat)) 1) where
  mem := by simp
  obj := fun i h st b hb => by
    have e : b = it := by simpa using hb
    subst e
    exact ⟨_, st, fun v z => by
      have z' : Data.fields _ = Data.cell v := z
      cases z'⟩
  keep := fun i h h' st k => k it (by simp) _ st
  item := by
    intro X hP hw hK hc i pins s σ H E I hf st hg
    subst hP hw hK
    obtain ⟨f0, f1, f2, f3, f4, f5⟩ := hf it (by simp)
    have W := Walks.range (prog := X.prog) (w := X.w) (I.ok.hd hc) it lo 1 n
    refine W.item i s _ _ hg st fun v h' tk hv st' kk => ?_
    obtain ⟨t, rfl⟩ := hv
    have I1 : Inv X pins σ H { s with heap := h', toks := tk } := I.turned (fun b o hb e => kk b o (by simpa using hb) e) f0 f1 f3 f4 f5
    refine ⟨_, rfl, go_of (s := { s with heap := h', toks := tk }) (n := "range_iterator") st' rfl rfl (by decide) ⟨.int (lo + i), H, I1, ⟨t, ?_⟩, ⟨rfl, rfl⟩, st', fun b hb => (hf b hb).1⟩⟩
    rw [Int.mul_one]
  done := by
    intro X hP hw hK hc i pins s σ H E I hf st hg
    subst hP hw hK
    obtain ⟨f0, f1, f2, f3, f4, f5⟩ := hf it (by simp)
    exact wpAny_pyNext_range_end (I.ok.hd hc) st (by have : n ≤ i := hg; omega) fun h' eb => ⟨rfl, I.turned (t' := s.toks) (fun b o hb e => eb b o hb e) f0 f1 f3 f4 f5⟩
  self := fun _ _ _ _ _ st h => wpAny_pyIter_rangeiter st h
end L2

namespace L2
open PySem PySem.Spec PyProof.Rows
section
variable {X : Cx} {tg : Expr}
def iList (K : PySem.W.Frag) (tl : TE) : TI := fun σ H R => tl σ H fun x H1 => ∃ a, x = .ref a ∧ (∃ xs, SqL K H1 a xs) ∧ R (Itl K a) H1
def iTup (K : PySem.W.Frag) (tl : TE) : TI := fun σ H R => tl σ H fun x H1 => ∃ a, x = .ref a ∧ (∃ xs, SqT K H1 a xs) ∧ R (Itt K a) H1
theorem pi_list {l : Expr} {tl : TE} (hl : PE X l tl) : PI X tg l (iList X.K tl) := by
  intro pins s σ H R I h
  refine thn (hl pins s σ H _ I h) fun v s1 ⟨x, H1, I1, r1, q1⟩ => ?_
  obtain ⟨a, e, ⟨xs, hq⟩, q⟩ := q1
  subst e
  cases r1
  obtain ⟨its, rv, p, hz⟩ := I1.list hq
  refine wpAny_pyIter_list p.isList ?_
  refine ⟨s1.heap.objs.size, [s1.heap.objs.size], _, _, H1, rfl, I1.kept (t' := s1.toks) fun b o e => Heap.get?_push_of_some _ e, turn_list a _, ⟨_, Heap.get?_push_size _ rfl, rfl, rfl⟩, fun b hb => ?_, q⟩
  have e : b = s1.heap.objs.size := by simpa using hb
  subst e
  exact I1.fpOk (Nat.le_refl _) (I1.hok.fresh (Nat.le_refl _))
theorem pi_tup {l : Expr} {tl : TE} (hl : PE X l tl) : PI X tg l (iTup X.K tl) := by
  intro pins s σ H R I h
  refine thn (hl pins s σ H _ I h) fun v s1 ⟨x, H1, I1, r1, q1⟩ => ?_
  obtain ⟨a, e, ⟨xs, hq⟩, q⟩ := q1
  subst e
  cases r1
  obtain ⟨its, rv, p, hz⟩ := I1.tuple hq
  refine wpAny_pyIter_tuple (show s1.heap.IsTuple a its.toArray from p) ?_
  refine ⟨s1.heap.objs.size, [s1.heap.objs.size], _, _, H1, rfl, I1.kept (t' := s1.toks) fun b o e => Heap.get?_push_of_some _ e, turn_tuple a _, ⟨_, Heap.get?_push_size _ rfl, rfl, rfl⟩, fun b hb => ?_, q⟩
  have e : b = s1.heap.objs.size := by simpa using hb
  subst e
  exact I1.fpOk (Nat.le_refl _) (I1.hok.fresh (Nat.le_refl _))
/-- a range object just made, walked -/
theorem range_it {pins : List (Addr × Obj)} {σ : St} {H : Hp} {s : Shared} {R : It → Hp → Prop} {E : Value → Shared → Prop} {lo hi : Int} {t u v : Tok} {tk : Nat} (I : Inv X pins σ H s) (h1 : -(2 ^ 62) ≤ lo) (h2 : lo < 2 ^ 62) (h3 : -(2 ^ 62) ≤ hi) (h4 : hi < 2 ^ 62)
    (q : R (Itr lo (hi - lo).toNat) H) : wpAny (model X.prog X.w) X.A (pyIter (.ref s.heap.objs.size)) (PIE X pins σ tg R) E { s with heap := s.heap.push { cls := .type "range", data := .fields #[.int lo t, .int hi u, .int 1 v] }, toks := tk } := by
  refine wpAny_pyIter_range (IsRange.new ..) (small_one h1 h2 h3 h4) ?_
  have I1 : Inv X pins σ H { s with heap := s.heap.push { cls := .type "range", data := .fields #[.int lo t, .int hi u, .int 1 v] }, toks := tk } := I.kept fun b o e => Heap.get?_push_of_some _ e
  refine ⟨(s.heap.push { cls := .type "range", data := .fields #[.int lo t, .int hi u, .int 1 v] }).objs.size, [(s.heap.push { cls := .type "range", data := .fields #[.int lo t, .int hi u, .int 1 v] }).objs.size], _, _, H, rfl,
    I1.kept (t' := tk) fun b o e => Heap.get?_push_of_some _ e, turn_range _ lo (hi - lo).toNat, ?_, fun b hb => ?_, q⟩
  · have e1 : lo + ((0 : Nat) : Int) * 1 = lo := by simp
    have e2 : (((hi - lo).toNat : Nat) : Int) - ((0 : Nat) : Int) = Builtin.Range.rangeSize lo hi 1 := by rw [rangeSize_one]; split <;> omega
    show IsRangeIter _ _ (lo + ((0 : Nat) : Int) * 1) ((((hi - lo).toNat : Nat) : Int) - ((0 : Nat) : Int)) 1
    rw [e1, e2]
    exact Heap.get?_push_size _ rfl
  · have e : b = (s.heap.push { cls := .type "range", data := .fields #[.int lo t, .int hi u, .int 1 v] }).objs.size := by simpa using hb
    subst e
    exact I1.fpOk (Nat.le_refl _) (I1.hok.fresh (Nat.le_refl _))
def iRng1 (ta : TA) : TI := fun σ H R => ta σ H fun vs H1 => ∃ j : Int, vs = [.int j] ∧ -(2 ^ 62) ≤ j ∧ j < 2 ^ 62 ∧ R (Itr 0 j.toNat) H1
theorem pi_range1 {a : Expr} {ta : TA} {p pos : Pos} (hg : Gl X "range") (hm : X.mg "range" = none) (ha : PA X [a] ta) (hs : starEach [a] X.env = [(false, eval a X.env)] := by rfl) : PI X tg (.Call (.Name "range" p) [a] [] pos) (iRng1 ta) := by
  intro pins s σ H R I h
  refine Call_ (ld_blt I hg hm boot_range (PyProof.Rows.callWith_type1 (thn (ha pos pins s σ H _ I h) fun us s1 ⟨vs, H1, I1, r1, q1⟩ => ?_) hs rfl))
  obtain ⟨j, e, q1, q2, q⟩ := q1
  subst e
  cases r1 with
  | cons r rr =>
    cases rr
    obtain ⟨t, rfl⟩ := r
    exact call_range_1 (range_it I1 (by omega) (by omega) q1 q2 (by simpa using q))
/-- W: the invariant by the turn and a measure; N: what the body is to reach -/
def tFor (wi : TI) (g : TG) (tb : TS) : TS := fun D σ H => wi σ H fun J H1 => ∃ W : Nat → Nat → St → Hp → Prop, (∃ m, W 0 m σ H1) ∧ ∀ i m σ H, W i m σ H →
  (J.stop i H ∧ D.nx σ H) ∨ (J.go i H ∧ ∃ N : St → Hp → Prop, (∀ σ' H', N σ' H' → ∃ m', m' < m ∧ W (i + 1) m' σ' H') ∧ ∀ x H', J.yld i H x H' → g x σ H' fun σ2 H2 => tb { D with nx := N, ct := N, bk := D.nx } σ2 H2)
/-- the records at fp as they stand -/
def pinsAt (fp : List Addr) (h : Heap) : List (Addr × Obj) := fp.filterMap fun b => (h.get? b).map fun o => (b, o)
theorem mem_pinsAt {fp : List Addr} {h : Heap} {b : Addr} {o : Obj} (hb : b ∈ fp) (e : h.get? b = some o) : (b, o) ∈ pinsAt fp h := List.mem_filterMap.mpr ⟨b, hb, by rw [e]; rfl⟩
theorem of_pinsAt {fp : List Addr} {h : Heap} {p : Addr × Obj} (hp : p ∈ pinsAt fp h) : p.1 ∈ fp ∧ h.get? p.1 = some p.2 := by
  obtain ⟨b, hb, e⟩ := List.mem_filterMap.mp hp
  cases q : h.get? b with
  | none => rw [q] at e; cases e
  | some o =>
    rw [q] at e
    have e' : (b, o) = p := Option.some.inj e
    subst e'
    exact ⟨hb, q⟩
theorem Inv.pinned {pins : List (Addr × Obj)} {σ : St} {H : Hp} {s : Shared} {fp : List Addr} (I : Inv X pins σ H s) (hf : ∀ b ∈ fp, FpOk X pins H b) (ho : ∀ b ∈ fp, ∃ o, s.heap.get? b = some o ∧ ∀ v, o.data ≠ .cell v) : Inv X (pins ++ pinsAt fp s.heap) σ H s :=
  I.pins_of fun p hp => (List.mem_append.mp hp).elim (fun z => I.pin p (List.mem_append_right _ z)) fun z => by
    obtain ⟨hb, e⟩ := of_pinsAt z
    obtain ⟨f0, f1, f2, _⟩ := hf p.1 hb
    obtain ⟨o, e', d⟩ := ho p.1 hb
    rw [e] at e'; cases e'
    exact ⟨e, f0, f1, f2, d⟩
theorem Inv.unpinned {pins pl : List (Addr × Obj)} {σ : St} {H : Hp} {s : Shared} (I : Inv X (pins ++ pl) σ H s) : Inv X pins σ H s := I.pins_of fun p hp => I.pin p (List.mem_append_right _ (List.mem_append_left _ hp))
theorem ps_for {iter : Expr} {body : List Stmt} {wi : TI} {g : TG} {tb : TS} {pos : Pos} (hp : PassesOwn (model X.prog X.w) X.A X.env X.xe) (hc : X.calm = true) (hi : PI X tg iter wi) (hg : PG X tg g) (hb : PSs X body tb)
    (hs : ∀ x, foldedSetIterable iter X.env x = pure x := by intro _; rfl) : PS X (.For tg iter body [] pos) (tFor wi g tb) := by
  intro pins s σ H D I h
  refine wpAny_For (thn (hi pins s σ H _ I h) fun v s1 h1 => thn h1 fun itv s2 h2 => ?_) hs
  obtain ⟨it, fp, tn, J, H2, e, I2, T, st2, f2, W, ⟨m0, w0⟩, turn⟩ := h2
  subst e
  -- what stays true of the iterator's objects through the loop
  have stat : ∀ {H' : Hp}, (∀ b ∈ fp, H' b = none) → ∀ b ∈ fp, FpOk X pins H' b := fun hn b hb => ⟨hn b hb, (f2 b hb).2⟩
  refine codeAny_forLoop_any (fun n s' => ∃ i σ' H', Inv X pins σ' H' s' ∧ tn i s'.heap ∧ (∀ b ∈ fp, H' b = none) ∧ W i n σ' H') ?_ m0 ⟨0, σ, H2, I2, st2, fun b hb => (f2 b hb).1, w0⟩
  rintro n s3 ⟨i, σ3, H3, I3, st3, fr3, w3⟩
  rcases turn i n σ3 H3 w3 with ⟨stop, qn⟩ | ⟨go, N, hN, step⟩
  · refine wpAny_passesOwn hp (thn (T.done X rfl rfl rfl hc i pins s3 σ3 H3 X.xe I3 (stat fr3) st3 stop) fun r s4 ⟨hr, I4⟩ => ?_)
    subst hr
    exact wpAny_execs_nil ⟨σ3, H3, I4, qn⟩
  · refine wpAny_passesOwn hp (thn (T.item X rfl rfl rfl hc i pins s3 σ3 H3 X.xe I3 (stat fr3) st3 go) fun r s4 ⟨u, hr, h4⟩ => ?_)
    subst hr
    refine wpAny_passesOwn hp (thn h4 fun _ s5 ⟨x, H5, I5, r5, y5, st5, fr5⟩ => ?_)
    have I5' := I5.pinned (stat fr5) (T.obj _ _ st5)
    refine wpAny_passesOwn hp (thn (hg _ s5 σ3 H5 x u _ I5' r5 (step x H5 y5)) fun _ s6 ⟨σ6, H6, I6, q6⟩ => ?_)
    refine wpAny_passesOwn hp (thn (hb _ s6 σ6 H6 _ I6 q6) fun f s7 q7 => ?_)
    have again : ∀ {σ7 : St} {H7 : Hp}, Inv X (pins ++ pinsAt fp s5.heap) σ7 H7 s7 → N σ7 H7 → ∃ m, m < n ∧ ∃ i σ' H', Inv X pins σ' H' s7 ∧ tn i s7.heap ∧ (∀ b ∈ fp, H' b = none) ∧ W i m σ' H' := fun {σ7 H7} I7 n7 => by
      obtain ⟨m', hm, w7⟩ := hN σ7 H7 n7
      refine ⟨m', hm, i + 1, σ7, H7, I7.unpinned, T.keep _ _ _ st5 fun b hb o e => (I7.pin (b, o) (List.mem_append_right _ (List.mem_append_right _ (mem_pinsAt hb e)))).1, fun b hb => ?_, w7⟩
      obtain ⟨o, e, d⟩ := T.obj _ _ st5 b hb
      exact (I7.pin (b, o) (List.mem_append_right _ (List.mem_append_right _ (mem_pinsAt hb e)))).2.1
    cases f with
    | next => obtain ⟨σ7, H7, I7, n7⟩ := q7; exact again I7 n7
    | cont => obtain ⟨σ7, H7, I7, n7⟩ := q7; exact again I7 n7
    | brk => obtain ⟨σ7, H7, I7, q7⟩ := q7; exact ⟨σ7, H7, I7.unpinned, q7⟩
    | ret v => obtain ⟨x7, σ7, H7, I7, r7, q7⟩ := q7; exact ⟨x7, σ7, H7, I7.unpinned, r7, q7⟩
end

/-- over a list that the body leaves as it is -/
theorem for_list {K : PySem.W.Frag} {a : Addr} {xs : List V} {g : TG} {tb : TS} {D : Ends} {σ : St} {H : Hp} (Pv : Nat → St → Hp → Prop) (h0 : Pv 0 σ H) (hl : ∀ i σ H, i ≤ xs.length → Pv i σ H → SqL K H a xs)
    (hs : ∀ i x σ H, xs[i]? = some x → Pv i σ H → g x σ H fun σ2 H2 => tb { D with nx := Pv (i + 1), ct := Pv (i + 1), bk := D.nx } σ2 H2) (hd : ∀ σ H, Pv xs.length σ H → D.nx σ H) :
    ∃ W : Nat → Nat → St → Hp → Prop, (∃ m, W 0 m σ H) ∧ ∀ i m σ H, W i m σ H →
      ((Itl K a).stop i H ∧ D.nx σ H) ∨ ((Itl K a).go i H ∧ ∃ N : St → Hp → Prop, (∀ σ' H', N σ' H' → ∃ m', m' < m ∧ W (i + 1) m' σ' H') ∧ ∀ x H', (Itl K a).yld i H x H' → g x σ H' fun σ2 H2 => tb { D with nx := N, ct := N, bk := D.nx } σ2 H2) := by
  refine ⟨fun i m σ H => m = xs.length - i ∧ i ≤ xs.length ∧ Pv i σ H, ⟨xs.length, by simp, Nat.zero_le _, h0⟩, ?_⟩
  rintro i m σ H ⟨rfl, hi, p⟩
  have q := hl i σ H hi p
  by_cases hlt : i < xs.length
  · refine .inr ⟨⟨xs, xs[i], q, by simp [hlt]⟩, Pv (i + 1), fun σ' H' p' => ⟨xs.length - (i + 1), by omega, rfl, hlt, p'⟩, fun x H' y => ?_⟩
    obtain ⟨e, y⟩ := y
    subst e
    exact hs i x σ _ (y xs q) p
  · have e : i = xs.length := by omega
    subst e
    exact .inl ⟨⟨xs, q, Nat.le_refl _⟩, hd σ H p⟩
theorem for_tup {K : PySem.W.Frag} {a : Addr} {xs : List V} {g : TG} {tb : TS} {D : Ends} {σ : St} {H : Hp} (Pv : Nat → St → Hp → Prop) (h0 : Pv 0 σ H) (hl : ∀ i σ H, i ≤ xs.length → Pv i σ H → SqT K H a xs)
    (hs : ∀ i x σ H, xs[i]? = some x → Pv i σ H → g x σ H fun σ2 H2 => tb { D with nx := Pv (i + 1), ct := Pv (i + 1), bk := D.nx } σ2 H2) (hd : ∀ σ H, Pv xs.length σ H → D.nx σ H) :
    ∃ W : Nat → Nat → St → Hp → Prop, (∃ m, W 0 m σ H) ∧ ∀ i m σ H, W i m σ H →
      ((Itt K a).stop i H ∧ D.nx σ H) ∨ ((Itt K a).go i H ∧ ∃ N : St → Hp → Prop, (∀ σ' H', N σ' H' → ∃ m', m' < m ∧ W (i + 1) m' σ' H') ∧ ∀ x H', (Itt K a).yld i H x H' → g x σ H' fun σ2 H2 => tb { D with nx := N, ct := N, bk := D.nx } σ2 H2) := by
  refine ⟨fun i m σ H => m = xs.length - i ∧ i ≤ xs.length ∧ Pv i σ H, ⟨xs.length, by simp, Nat.zero_le _, h0⟩, ?_⟩
  rintro i m σ H ⟨rfl, hi, p⟩
  have q := hl i σ H hi p
  by_cases hlt : i < xs.length
  · refine .inr ⟨⟨xs, xs[i], q, by simp [hlt]⟩, Pv (i + 1), fun σ' H' p' => ⟨xs.length - (i + 1), by omega, rfl, hlt, p'⟩, fun x H' y => ?_⟩
    obtain ⟨e, y⟩ := y
    subst e
    exact hs i x σ _ (y xs q) p
  · have e : i = xs.length := by omega
    subst e
    exact .inl ⟨⟨xs, q, Nat.le_refl _⟩, hd σ H p⟩
theorem for_range {lo : Int} {n : Nat} {g : TG} {tb : TS} {D : Ends} {σ : St} {H : Hp} (Pv : Nat → St → Hp → Prop) (h0 : Pv 0 σ H)
    (hs : ∀ i σ H, i < n → Pv i σ H → g (.int (lo + i)) σ H fun σ2 H2 => tb { D with nx := Pv (i + 1), ct := Pv (i + 1), bk := D.nx } σ2 H2) (hd : ∀ σ H, Pv n σ H → D.nx σ H) :
    ∃ W : Nat → Nat → St → Hp → Prop, (∃ m, W 0 m σ H) ∧ ∀ i m σ H, W i m σ H →
      ((Itr lo n).stop i H ∧ D.nx σ H) ∨ ((Itr lo n).go i H ∧ ∃ N : St → Hp → Prop, (∀ σ' H', N σ' H' → ∃ m', m' < m ∧ W (i + 1) m' σ' H') ∧ ∀ x H', (Itr lo n).yld i H x H' → g x σ H' fun σ2 H2 => tb { D with nx := N, ct := N, bk := D.nx } σ2 H2) := by
  refine ⟨fun i m σ H => m = n - i ∧ i ≤ n ∧ Pv i σ H, ⟨n, by simp, Nat.zero_le _, h0⟩, ?_⟩
  rintro i m σ H ⟨rfl, hi, p⟩
  by_cases hlt : i < n
  · refine .inr ⟨hlt, Pv (i + 1), fun σ' H' p' => ⟨n - (i + 1), by omega, rfl, hlt, p'⟩, fun x H' y => ?_⟩
    obtain ⟨e, y⟩ := y
    subst e y
    exact hs i σ _ hlt p
  · have e : i = n := by omega
    subst e
    exact .inl ⟨Nat.le_refl _, hd σ H p⟩
end L2

namespace L2
open PySem PySem.Spec PyProof.Rows

abbrev R2 := V → V → Hp → VK → Prop
/-- a two-place operation on values: f is binaryOp op, inplaceOp op or compareOp op -/
def OpR (X : Cx) (f : Value → Value → Sem Value) (r : R2) : Prop :=
  ∀ (pins : List (Addr × Obj)) (s : Shared) (σ : St) (H : Hp) (x y : V) (v u : Value) (Q : VK), Inv X pins σ H s → RelV x v → RelV y u → r x y H Q →
    wpAny (model X.prog X.w) X.A (f v u) (EP X pins σ Q) X.xe s
/-- a call of a value that is known (a builtin, a type) with values -/
def CallR (X : Cx) (f : Value) (r : List V → Hp → VK → Prop) : Prop :=
  ∀ (pins : List (Addr × Obj)) (s : Shared) (σ : St) (H : Hp) (xs : List V) (us : List Value) (Q : VK), Inv X pins σ H s → Vals xs us → r xs H Q →
    wpAny (model X.prog X.w) X.A (call f us) (EP X pins σ Q) X.xe s
def tOp (r : R2) (ta tb : TE) : TE := fun σ H Q => ta σ H fun x H1 => tb σ H1 fun y H2 => r x y H2 Q
/-- ints in, under C, and a value out -/
def rI (C : Int → Int → Prop) (g : Int → Int → V) : R2 := fun x y H Q => ∃ i j, x = .int i ∧ y = .int j ∧ C i j ∧ Q (g i j) H
def rI0 (g : Int → Int → V) : R2 := fun x y H Q => ∃ i j, x = .int i ∧ y = .int j ∧ Q (g i j) H
section
variable {X : Cx} {a b c : Expr} {ta tb tc : TE} {pos : Pos}

theorem binT (ha : PE X a ta) (hb : PE X b tb) {pins : List (Addr × Obj)} {s : Shared} {σ : St} {H : Hp} {R : V → V → Hp → Prop} (I : Inv X pins σ H s)
    (h : ta σ H fun x H1 => tb σ H1 fun y H2 => R x y H2) {Q : Value → Shared → Prop} {f : Value → Value → Sem Value}
    (hf : ∀ v u s2 x y H2, Inv X pins σ H2 s2 → RelV x v → RelV y u → R x y H2 → wpAny (model X.prog X.w) X.A (f v u) Q X.xe s2) :
    wpAny (model X.prog X.w) X.A (eval a X.env) (fun v s₁ => wpAny (model X.prog X.w) X.A (eval b X.env) (fun u s₂ => wpAny (model X.prog X.w) X.A (f v u) Q X.xe s₂) X.xe s₁) X.xe s := by
  refine thn (ha pins s σ H _ I h) fun v s1 ⟨x, H1, I1, r1, q1⟩ => ?_
  refine thn (hb pins s1 σ H1 _ I1 q1) fun u s2 ⟨y, H2, I2, r2, q2⟩ => ?_
  exact hf v u s2 x y H2 I2 r1 r2 q2

theorem pe_op {op : Operator} {r : R2} (ho : OpR X (binaryOp op) r) (ha : PE X a ta) (hb : PE X b tb) : PE X (.BinOp a op b pos) (tOp r ta tb) := by
  intro pins s σ H Q I h
  exact wpAny_BinOp (binT ha hb I h fun v u s2 x y H2 I2 rx ry q => ho pins s2 σ H2 x y v u Q I2 rx ry q)
theorem opI {f : Value → Value → Sem Value} {C : Int → Int → Prop} {g : Int → Int → Int}
    (rule : ∀ (i j : Int) (t u : Tok) (s : Shared) (Q : Value → Shared → Prop) (E : Value → Shared → Prop), C i j → Q (.int (g i j) s.toks) { s with toks := s.toks + 1 } → wpAny (model X.prog X.w) X.A (f (.int i t) (.int j u)) Q E s) :
    OpR X f (rI C fun i j => .int (g i j)) := by
  intro pins s σ H x y v u Q I rx ry h
  obtain ⟨i, j, rfl, rfl, hc, q⟩ := h
  obtain ⟨t, rfl⟩ := rx
  obtain ⟨t', rfl⟩ := ry
  exact rule i j t t' s _ _ hc ⟨.int (g i j), H, I.tok _, ⟨_, rfl⟩, q⟩
theorem opI0 {f : Value → Value → Sem Value} {g : Int → Int → Int}
    (rule : ∀ (i j : Int) (t u : Tok) (s : Shared) (Q : Value → Shared → Prop) (E : Value → Shared → Prop), Q (.int (g i j) s.toks) { s with toks := s.toks + 1 } → wpAny (model X.prog X.w) X.A (f (.int i t) (.int j u)) Q E s) :
    OpR X f (rI0 fun i j => .int (g i j)) := by
  intro pins s σ H x y v u Q I rx ry h
  obtain ⟨i, j, rfl, rfl, q⟩ := h
  obtain ⟨t, rfl⟩ := rx
  obtain ⟨t', rfl⟩ := ry
  exact rule i j t t' s _ _ ⟨.int (g i j), H, I.tok _, ⟨_, rfl⟩, q⟩
theorem opB0 {f : Value → Value → Sem Value} {g : Int → Int → Bool}
    (rule : ∀ (i j : Int) (t u : Tok) (s : Shared) (Q : Value → Shared → Prop) (E : Value → Shared → Prop), Q (.bool (g i j)) s → wpAny (model X.prog X.w) X.A (f (.int i t) (.int j u)) Q E s) :
    OpR X f (rI0 fun i j => .bl (g i j)) := by
  intro pins s σ H x y v u Q I rx ry h
  obtain ⟨i, j, rfl, rfl, q⟩ := h
  obtain ⟨t, rfl⟩ := rx
  obtain ⟨t', rfl⟩ := ry
  exact rule i j t t' s _ _ ⟨.bl (g i j), H, I, rfl, q⟩

def CDiv (i j : Int) : Prop := 0 < j ∧ j < 1073741824
def CPow (i j : Int) : Prop := 0 ≤ j ∧ j ≤ 1000000 ∧ i.natAbs < 2 ^ 64
def CMul (i j : Int) : Prop := (-(2 ^ 64) < i ∧ i < 2 ^ 64) ∨ (-(2 ^ 64) < j ∧ j < 2 ^ 64)
theorem CMul.ok {i j : Int} (h : CMul i j) : IntMulOk i j := by
  rcases h with ⟨h1, h2⟩ | ⟨h1, h2⟩
  · exact .of_left (intBits_le_64 h1 h2)
  · exact .of_right (intBits_le_64 h1 h2)
theorem op_add : OpR X (binaryOp .Add) (rI0 fun i j => .int (i + j)) := opI0 fun _ _ _ _ _ _ _ q => add_int q
theorem op_sub : OpR X (binaryOp .Sub) (rI0 fun i j => .int (i - j)) := opI0 fun _ _ _ _ _ _ _ q => sub_int q
theorem op_mul : OpR X (binaryOp .Mult) (rI CMul fun i j => .int (i * j)) := opI fun _ _ _ _ _ _ _ hc q => mul_int q hc.ok
/-- // by a positive divisor -/
theorem op_fdiv : OpR X (binaryOp .FloorDiv) (rI CDiv fun i j => .int (i / j)) := opI fun i j _ _ _ _ _ hc q => by
  have h1 : (0 : Int) < j := hc.1
  have h2 : j < 1073741824 := hc.2
  exact floordiv_int (by omega) (by rw [Int.fdiv_eq_ediv_of_nonneg i (by omega)]; exact q) (.inl (PyProof.noPylong_small (by omega)))
/-- % by a positive divisor of any size -/
theorem op_mod : OpR X (binaryOp .Mod) (rI (fun _ j => 0 < j) fun i j => .int (i % j)) := opI fun i j _ _ _ _ _ hc q => by
  have h1 : (0 : Int) < j := hc
  exact mod_int' (by omega) (by rw [Int.fmod_eq_emod_of_nonneg i (by omega)]; exact q)
theorem op_pow : OpR X (binaryOp .Pow) (rI CPow fun i j => .int (i ^ j.toNat)) := opI fun _ _ _ _ _ _ _ hc q => pow_int_small hc.1 hc.2.1 hc.2.2 q
end

/-- the scalars that == tells apart as data does -/
def scal : V → V → Bool
  | .non, .non => true | .non, .int _ => true | .int _, .non => true | .non, .bl _ => true | .bl _, .non => true | .non, .str _ => true | .str _, .non => true
  | .int _, .int _ => true | .bl _, .bl _ => true | .str _, .str _ => true | .byt _, .byt _ => true
  | .int _, .str _ => true | .str _, .int _ => true | .bl _, .str _ => true | .str _, .bl _ => true
  | _, _ => false
def rEq : R2 := fun x y H Q => scal x y = true ∧ Q (.bl (decide (x = y))) H
def rNe : R2 := fun x y H Q => scal x y = true ∧ Q (.bl (!decide (x = y))) H

theorem dec_int {i j : Int} : decide (V.int i = V.int j) = (i == j) := by
  rw [Bool.eq_iff_iff]
  simp
theorem dec_bl {i j : Bool} : decide (V.bl i = V.bl j) = (i == j) := by
  rw [Bool.eq_iff_iff]
  simp
theorem dec_str {i j : Str} : decide (V.str i = V.str j) = (i == j) := by
  rw [Bool.eq_iff_iff]
  simp
theorem dec_byt {i j : Array UInt8} : decide (V.byt i = V.byt j) = (i.toList == j.toList) := by
  rw [Bool.eq_iff_iff]
  cases i
  cases j
  simp

section
variable {X : Cx} {a b c : Expr} {ta tb tc : TE} {pos : Pos}
theorem fin_bl {pins : List (Addr × Obj)} {σ : St} {H : Hp} {s : Shared} {Q : VK} {k k' : Bool} (I : Inv X pins σ H s) (q : Q (.bl k) H) (e : k = k') : EP X pins σ Q (.bool k') s := by
  subst e
  exact ⟨.bl k, H, I, rfl, q⟩
theorem op_eq : OpR X (compareOp .Eq) rEq := by
  intro pins s σ H x y v u Q I rx ry h
  obtain ⟨hs, q⟩ := h
  cases x with
  | non =>
    cases rx
    cases y with
    | non => cases ry; exact PySem.EqNone.eq_none_none (fin_bl I q (by simp))
    | bl j => cases ry; exact PySem.EqNone.eq_none_bool (fin_bl I q (by simp))
    | int j => obtain ⟨t', rfl⟩ := ry; exact PySem.EqNone.eq_none_int (fin_bl I q (by simp))
    | str j => obtain ⟨t', rfl⟩ := ry; exact PySem.EqNone.eq_none_str (fin_bl I q (by simp))
    | _ => exact absurd (show false = true from hs) Bool.false_ne_true
  | bl i =>
    cases rx
    cases y with
    | non => cases ry; exact PySem.EqNone.eq_bool_none (fin_bl I q (by simp))
    | bl j => cases ry; exact eq_bool (fin_bl I q dec_bl)
    | str j => obtain ⟨t', rfl⟩ := ry; exact PySem.EqMixed.eq_bool_str (fin_bl I q (by simp))
    | _ => exact absurd (show false = true from hs) Bool.false_ne_true
  | int i =>
    obtain ⟨t, rfl⟩ := rx
    cases y with
    | non => cases ry; exact PySem.EqNone.eq_int_none (fin_bl I q (by simp))
    | int j => obtain ⟨t', rfl⟩ := ry; exact eq_int (fin_bl I q dec_int)
    | str j => obtain ⟨t', rfl⟩ := ry; exact PySem.EqMixed.eq_int_str (fin_bl I q (by simp))
    | _ => exact absurd (show false = true from hs) Bool.false_ne_true
  | str i =>
    obtain ⟨t, rfl⟩ := rx
    cases y with
    | non => cases ry; exact PySem.EqNone.eq_str_none (fin_bl I q (by simp))
    | bl j => cases ry; exact PySem.EqMixed.eq_str_bool (fin_bl I q (by simp))
    | int j => obtain ⟨t', rfl⟩ := ry; exact PySem.EqMixed.eq_str_int (fin_bl I q (by simp))
    | str j => obtain ⟨t', rfl⟩ := ry; exact eq_str (fin_bl I q dec_str)
    | _ => exact absurd (show false = true from hs) Bool.false_ne_true
  | byt i =>
    obtain ⟨t, rfl⟩ := rx
    cases y with
    | byt j => obtain ⟨t', rfl⟩ := ry; exact PySem.W.eq_bytes (fin_bl I q dec_byt)
    | _ => exact absurd (show false = true from hs) Bool.false_ne_true
  | _ => cases y <;> exact absurd (show false = true from hs) Bool.false_ne_true
theorem op_ne : OpR X (compareOp .NotEq) rNe := by
  intro pins s σ H x y v u Q I rx ry h
  obtain ⟨hs, q⟩ := h
  cases x with
  | non =>
    cases rx
    cases y with
    | non => cases ry; exact PySem.EqNone.ne_none_none (fin_bl I q (by simp))
    | bl j => cases ry; exact PySem.EqNone.ne_none_bool (fin_bl I q (by simp))
    | int j => obtain ⟨t', rfl⟩ := ry; exact PySem.EqNone.ne_none_int (fin_bl I q (by simp))
    | str j => obtain ⟨t', rfl⟩ := ry; exact PySem.EqNone.ne_none_str (fin_bl I q (by simp))
    | _ => exact absurd (show false = true from hs) Bool.false_ne_true
  | bl i =>
    cases rx
    cases y with
    | non => cases ry; exact PySem.EqNone.ne_bool_none (fin_bl I q (by simp))
    | bl j => cases ry; exact ne_bool (fin_bl I q (congrArg not dec_bl))
    | str j => obtain ⟨t', rfl⟩ := ry; exact PySem.EqMixed.ne_bool_str (fin_bl I q (by simp))
    | _ => exact absurd (show false = true from hs) Bool.false_ne_true
  | int i =>
    obtain ⟨t, rfl⟩ := rx
    cases y with
    | non => cases ry; exact PySem.EqNone.ne_int_none (fin_bl I q (by simp))
    | int j => obtain ⟨t', rfl⟩ := ry; exact ne_int (fin_bl I q (congrArg not dec_int))
    | str j => obtain ⟨t', rfl⟩ := ry; exact PySem.EqMixed.ne_int_str (fin_bl I q (by simp))
    | _ => exact absurd (show false = true from hs) Bool.false_ne_true
  | str i =>
    obtain ⟨t, rfl⟩ := rx
    cases y with
    | non => cases ry; exact PySem.EqNone.ne_str_none (fin_bl I q (by simp))
    | bl j => cases ry; exact PySem.EqMixed.ne_str_bool (fin_bl I q (by simp))
    | int j => obtain ⟨t', rfl⟩ := ry; exact PySem.EqMixed.ne_str_int (fin_bl I q (by simp))
    | str j => obtain ⟨t', rfl⟩ := ry; exact ne_str (fin_bl I q (congrArg not dec_str))
    | _ => exact absurd (show false = true from hs) Bool.false_ne_true
  | byt i =>
    obtain ⟨t, rfl⟩ := rx
    cases y with
    | byt j => obtain ⟨t', rfl⟩ := ry; exact PySem.W.ne_bytes (fin_bl I q (congrArg not dec_byt))
    | _ => exact absurd (show false = true from hs) Bool.false_ne_true
  | _ => cases y <;> exact absurd (show false = true from hs) Bool.false_ne_true

theorem op_lt : OpR X (compareOp .Lt) (rI0 fun i j => .bl (decide (i < j))) := opB0 fun _ _ _ _ _ _ _ q => lt_int q
theorem op_gt : OpR X (compareOp .Gt) (rI0 fun i j => .bl (decide (j < i))) := opB0 fun _ _ _ _ _ _ _ q => gt_int q
theorem op_ge : OpR X (compareOp .GtE) (rI0 fun i j => .bl (decide (j ≤ i))) := opB0 fun _ _ _ _ _ _ _ q => ge_int q
theorem nomark (b : Expr) {op : CmpOp} (h : op ≠ .In := by decide) (h2 : op ≠ .NotIn := by decide) : behindInMarks op b = false := by
  have e1 : (op == CmpOp.In) = false := by cases op <;> first | rfl | exact absurd rfl h
  have e2 : (op == CmpOp.NotIn) = false := by cases op <;> first | rfl | exact absurd rfl h2
  cases b <;> simp [behindInMarks, e1, e2]
/-- a comparison as a value; hm: nomark b, or (for in, not in) by with_unfolding_all rfl -/
theorem pe_cmpR {op : CmpOp} {r : R2} (ho : OpR X (compareOp op) r) (ha : PE X a ta) (hb : PE X b tb) (hm : behindInMarks op b = false) : PE X (.Compare a [op] [b] pos) (tOp r ta tb) := by
  intro pins s σ H Q I h
  exact wpAny_Compare1 (binT ha hb I h fun v u s2 x y H2 I2 rx ry q => ho pins s2 σ H2 x y v u Q I2 rx ry q) hm
/-- a reading of a value as a test -/
def tTest (t : TE) : TT := fun σ H Q => t σ H fun x H' => ∃ k, x = .bl k ∧ Q k H'
theorem pt_cmpR {op : CmpOp} {r : R2} (ho : OpR X (compareOp op) r) (ha : PE X a ta) (hb : PE X b tb) (hm : behindInMarks op b = false) : PT X (.Compare a [op] [b] pos) (tTest (tOp r ta tb)) := by
  intro pins s σ H Q I h
  refine wpAny_isTrue_Compare1 (thn (ha pins s σ H _ I h) fun v s1 ⟨x, H1, I1, r1, q1⟩ => thn (hb pins s1 σ H1 _ I1 q1) fun u s2 ⟨y, H2, I2, r2, q2⟩ =>
    thn (ho pins s2 σ H2 x y v u _ I2 r1 r2 q2) fun c s3 ⟨z, H3, I3, r3, k, e, q3⟩ => ?_) hm
  subst e
  cases r3
  exact wpAny_truthy_bool ⟨H3, I3, q3⟩
theorem line63 : (sizeLine : Nat) < 2 ^ 63 := by rw [sizeLine_eq]; decide
theorem vals1 {x : V} {us : List Value} (r : Vals [x] us) : ∃ u, us = [u] ∧ RelV x u := by
  cases r with
  | cons r1 r2 => cases r2; exact ⟨_, rfl, r1⟩
theorem vals2 {x y : V} {us : List Value} (r : Vals [x, y] us) : ∃ u w', us = [u, w'] ∧ RelV x u ∧ RelV y w' := by
  cases r with
  | cons r1 r2 =>
    cases r2 with
    | cons r3 r4 => cases r4; exact ⟨_, _, rfl, r1, r3⟩
theorem call_abs : CallR X (.builtin "abs") (fun xs H Q => ∃ i, xs = [.int i] ∧ Q (.int (if i < 0 then -i else i)) H) := by
  intro pins s σ H xs us Q I r h
  obtain ⟨i, rfl, q⟩ := h
  obtain ⟨u, rfl, t, rfl⟩ := vals1 r
  exact call_abs_int fun u tk => ⟨.int (if i < 0 then -i else i), H, I.tok _, ⟨_, rfl⟩, q⟩
theorem call_max2 (hc : X.calm = true) : CallR X (.builtin "max") (fun xs H Q => ∃ i j, xs = [.int i, .int j] ∧ Q (.int (if j > i then j else i)) H) := by
  intro pins s σ H xs us Q I r h
  obtain ⟨i, j, rfl, q⟩ := h
  obtain ⟨u, w', rfl, ⟨t, rfl⟩, ⟨t', rfl⟩⟩ := vals2 r
  refine max_two_ints (I.ok.hd hc) fun h' tk k => ⟨_, H, I.kept k, ?_, q⟩
  by_cases hj : j > i
  · rw [if_pos hj, if_pos hj]; exact ⟨_, rfl⟩
  · rw [if_neg hj, if_neg hj]; exact ⟨_, rfl⟩
theorem call_min2 (hc : X.calm = true) : CallR X (.builtin "min") (fun xs H Q => ∃ i j, xs = [.int i, .int j] ∧ Q (.int (if j < i then j else i)) H) := by
  intro pins s σ H xs us Q I r h
  obtain ⟨i, j, rfl, q⟩ := h
  obtain ⟨u, w', rfl, ⟨t, rfl⟩, ⟨t', rfl⟩⟩ := vals2 r
  refine min_two_ints (I.ok.hd hc) fun h' tk k => ⟨_, H, I.kept k, ?_, q⟩
  by_cases hj : j < i
  · rw [if_pos hj, if_pos hj]; exact ⟨_, rfl⟩
  · rw [if_neg hj, if_neg hj]; exact ⟨_, rfl⟩
theorem call_int1 : CallR X (.type "int") (fun xs H Q => (∃ i, xs = [.int i] ∧ Q (.int i) H) ∨ ∃ k, xs = [.bl k] ∧ Q (.int (if k then 1 else 0)) H) := by
  intro pins s σ H xs us Q I r h
  rcases h with ⟨i, rfl, q⟩ | ⟨k, rfl, q⟩
  · obtain ⟨u, rfl, t, rfl⟩ := vals1 r
    exact call_int_int ⟨.int i, H, I, ⟨_, rfl⟩, q⟩
  · obtain ⟨u, rfl, r1⟩ := vals1 r
    cases r1
    exact call_int_bool ⟨.int (if k then 1 else 0), H, I.tok _, ⟨_, rfl⟩, q⟩
end
end L2

namespace L2
open PySem PySem.Spec PyProof.Rows

structure ObjM (h : Heap) (x dx C : Addr) (mA : Str → Option Value) : Prop where
  obj : h.get? x = some (PySem.W.instObj C dx)
  ns : h.Ns1 dx mA
  ne : dx ≠ x

theorem lookIn_ns {h : Heap} {dx : Addr} {mA : Str → Option Value} (n : h.Ns1 dx mA) : ∃ od, h.get? dx = some od ∧ ∀ name, PySem.W.lookIn name od = some (mA name) := by
  obtain ⟨o, es, ep, ho, hd, hk, _, hm⟩ := n
  refine ⟨o, ho, fun name => ?_⟩
  have e := hm name
  unfold nsFind findBy at e
  rw [← Array.find?_toList] at e
  unfold PySem.W.lookIn
  rw [hd]
  dsimp only
  split
  · rename_i y q
    rw [q] at e
    exact congrArg some e
  · rename_i q
    rw [q] at e
    have a : es.toList.any (·.refKey) = false := by
      rw [List.any_eq_false]
      intro y hy
      obtain ⟨z, t, hkey⟩ := hk y (Array.mem_toList_iff.mp hy)
      simp [DictEntry.refKey, hkey]
    have a' : ¬ es.toList.any (·.refKey) = true := by rw [a]; exact Bool.false_ne_true
    rw [if_neg a']
    exact congrArg some e

theorem ObjM.look {h : Heap} {x dx C : Addr} {mA : Str → Option Value} (I : ObjM h x dx C mA) : ∃ od, PySem.W.InstAt h x (PySem.W.instObj C dx) C (some od) ∧ ∀ name, PySem.W.lookIn name od = some (mA name) :=
  let ⟨od, ho, hl⟩ := lookIn_ns I.ns
  ⟨od, ⟨I.obj, rfl, rfl, ho⟩, hl⟩

section
variable {prog : Program} {w : World} {A : Around} {E : Value → Shared → Prop} {s : Shared} {K : PySem.W.Frag} {x dx C f : Addr} {mA : Str → Option Value} {name : Str} {v : Value}

end

theorem RelO.some_of {v : V} {o : Option Value} (r : RelO (some v) o) : ∃ u, o = some u ∧ RelV v u := by
  cases o with
  | none => exact (show False from r).elim
  | some u => exact ⟨u, rfl, r⟩
section
variable {P : Program} {w : World} {H H' : Hp} {h h' : Heap} {a C dx : Addr} {fs fs' : List (Str × V)}
theorem ins_get (hok : HOk P w H h) (e : H a = some (.ins C dx fs)) : ∃ mA, ObjM h a dx C mA ∧ (∀ f, RelO (fs.lookup f) (mA f)) ∧ PySem.Within mA (fs.map (·.1)) ∧ fs.length ≤ 1000 ∧ H dx = some (.own a) := by
  obtain ⟨d, z, ne, ob, mA, n, r, q⟩ := (show ObjOk P w H h a (.ins C dx fs) from hok a _ e)
  exact ⟨mA, ⟨ob, n, ne⟩, r, q, z, d⟩
end

structure Cls (K : PySem.W.Frag) (C : Addr) : Prop where
  pg : PySem.W.plainGet K C Str.empty = true
  hd : PySem.W.hasDictIn K C = true
  po : PySem.W.plainOver K C = true
  sa : PySem.W.findIn K (.ref C) "__setattr__" = some (some (.builtin "object.__setattr__"))
theorem Cls.get {K : PySem.W.Frag} {C : Addr} (c : Cls K C) (f : Str) : PySem.W.plainGet K C f = true := c.pg
section
variable {X : Cx} {pins : List (Addr × Obj)} {σ : St} {H : Hp} {s : Shared} {a C dx : Addr} {fs : List (Str × V)} {f : Str} {v : V} {A : Around} {E : Value → Shared → Prop}

end

section
variable {X : Cx} {o e value : Expr} {f : Str} {pos pos' tpos : Pos} {ta tv : TE}
end

section
variable {X : Cx} {pins : List (Addr × Obj)} {σ : St} {H : Hp} {s : Shared} {A : Around} {E : Value → Shared → Prop} {Q : Value → Shared → Prop} {c : Value} {b : Bool}
/-- the type of a value, as the fragment's deciders take it; for an instance its class -/
inductive TyOf (K : PySem.W.Frag) (H : Hp) : V → Value → Prop where
  | non : TyOf K H .non (.type "NoneType")
  | bl (x : Bool) : TyOf K H (.bl x) (.type "bool")
  | int (i : Int) : TyOf K H (.int i) (.type "int")
  | str (x : Str) : TyOf K H (.str x) (.type "str")
  | flt (x : UInt64) : TyOf K H (.flt x) (.type "float")
  | lst {a : Addr} {xs : List V} (e : H a = some (.lst xs)) : TyOf K H (.ref a) (.type "list")
  | frz {a : Addr} {o : Obj} {xs : List V} (e : H a = some (.frz o (.lst xs))) : TyOf K H (.ref a) (.type "list")
  | tup {a : Addr} {xs : List V} (e : H a = some (.tup xs)) : TyOf K H (.ref a) (.type "tuple")
  | dK {a : Addr} {kvs : List (Key × V)} (e : H a = some (.dK kvs)) : TyOf K H (.ref a) (.type "dict")
  | dT {a : Addr} {kvs : List (List Key × V)} (e : H a = some (.dT kvs)) : TyOf K H (.ref a) (.type "dict")
  | ins {a C dx : Addr} {fs : List (Str × V)} (e : H a = some (.ins C dx fs)) (cl : Cls K C) (ha : PySem.W.findIn K (.ref C) "__class__" = some (some (.builtin "object.__class__")))
      (hn : PySem.W.specialIn K (.builtin "object.__class__") "__get__" = some (some (.builtin "getset_descriptor.__get__"))) (htk : PySem.W.takesIn K (.builtin "object.__class__") = some true)
      (hm : PySem.W.mroIn K C (.type "object") = some true) : TyOf K H (.ref a) (.ref C)
/-- isinstance(x, c) for one class c, a built-in or an own one: kitOne's answer -/
theorem isinst_ok {x : V} {u t : Value} (I : Inv X pins σ H s) (rx : RelV x u) (ty : TyOf X.K H x t) (e : PySem.W.kitOne X.K t c = some b) (h : ∀ tk, Q (.bool b) { s with toks := tk }) :
    wpAny (model X.prog X.w) A (call (.builtin "isinstance") [u, c]) Q E s := by
  cases ty with
  | non => cases (show u = Value.none from rx); exact PySem.W.kia_one PySem.W.kitx_none I.kIn True.intro e (fun z => nomatch z) h
  | bl y => cases (show u = Value.bool y from rx); exact PySem.W.kia_one PySem.W.kitx_bool I.kIn True.intro e (fun z => nomatch z) h
  | int i => obtain ⟨t, q⟩ := (show ∃ t, u = Value.int i t from rx); cases q; exact PySem.W.kia_one PySem.W.kitx_int I.kIn True.intro e (fun z => nomatch z) h
  | str y => obtain ⟨t, q⟩ := (show ∃ t, u = Value.str y t from rx); cases q; exact PySem.W.kia_one PySem.W.kitx_str I.kIn True.intro e (fun z => nomatch z) h
  | flt y => obtain ⟨t, q⟩ := (show ∃ t, u = Value.float y t from rx); cases q; exact PySem.W.kia_one PySem.W.kitx_float I.kIn True.intro e (fun z => nomatch z) h
  | @lst a xs ea =>
    cases (show u = Value.ref a from rx)
    obtain ⟨_, _, n, _, h1⟩ := (show ObjOk X.prog X.w H s.heap a (.lst xs) from I.hok a _ ea)
    exact PySem.W.kia_one PySem.W.kitx_list I.kIn ⟨_, h1, rfl⟩ e (fun z => nomatch z) h
  | @frz a ob xs ea =>
    cases (show u = Value.ref a from rx)
    obtain ⟨_, _, _, n, _, h1⟩ := (show ObjOk X.prog X.w H s.heap a (.frz ob (.lst xs)) from I.hok a _ ea)
    exact PySem.W.kia_one PySem.W.kitx_list I.kIn ⟨_, h1, rfl⟩ e (fun z => nomatch z) h
  | @tup a xs ea =>
    cases (show u = Value.ref a from rx)
    obtain ⟨_, _, _, p⟩ := (show ObjOk X.prog X.w H s.heap a (.tup xs) from I.hok a _ ea)
    obtain ⟨o, h1, h2, _⟩ := p
    exact PySem.W.kia_one PySem.W.kitx_tuple I.kIn ⟨o, h1, h2⟩ e (fun z => nomatch z) h
  | @dK a kvs ea =>
    cases (show u = Value.ref a from rx)
    obtain ⟨_, _, vs, _, p⟩ := (show ObjOk X.prog X.w H s.heap a (.dK kvs) from I.hok a _ ea)
    obtain ⟨o, es, ep, h1, h2, _⟩ := p
    exact PySem.W.kia_one PySem.W.kitx_dict I.kIn ⟨o, h1, h2.1⟩ e (fun z => nomatch z) h
  | @dT a kvs ea =>
    cases (show u = Value.ref a from rx)
    obtain ⟨_, _, xs, _, o, es, ep, h1, h2, _⟩ := (show ObjOk X.prog X.w H s.heap a (.dT kvs) from I.hok a _ ea)
    exact PySem.W.kia_one PySem.W.kitx_dict I.kIn ⟨o, h1, h2.1⟩ e (fun z => nomatch z) h
  | @ins a C dx fs ea cl ha hn htk hm =>
    cases (show u = Value.ref a from rx)
    obtain ⟨mA, O, _⟩ := ins_get I.hok ea
    obtain ⟨od, J, _⟩ := O.look
    exact PySem.W.kia_one (PySem.W.kitx_own (cl.get _) cl.hd ha hn htk hm) I.kIn J e (fun z => nomatch z) h
end
end L2

namespace L2
open PySem PySem.Spec PyProof.Rows

structure Room (k : Nat) (A : Around) : Prop where
  hd : A.handled = none
  dp : A.depth + 3 * k + 5 < recursionLimit
  un : A.units + 16 * k + 200 < cLine
  gd : A.guards = some []
theorem Room.mono {j k : Nat} {A : Around} (r : Room k A) (h : j ≤ k) : Room j A := ⟨r.hd, by have := r.dp; omega, by have := r.un; omega, r.gd⟩
theorem Room.deeper {k : Nat} {A : Around} (r : Room (k + 1) A) (env : Env) : Room k (A.deeper env) :=
  ⟨r.hd, by have := r.dp; show A.depth + 1 + 3 * k + 5 < _; omega, by have := r.un; show A.units + 3 + 16 * k + 200 < _; omega, r.gd⟩
theorem Room.depth {k : Nat} {A : Around} (r : Room k A) : A.depth < recursionLimit := by have := r.dp; omega
theorem Room.units {k : Nat} {A : Around} (r : Room k A) : A.units + 64 < cLine := by have := r.un; omega
def tNil : TA := fun _ H Q => Q [] H
def tCons (ta : TE) (tr : TA) : TA := fun σ H Q => ta σ H fun x H1 => tr σ H1 fun xs H2 => Q (x :: xs) H2
section
variable {X : Cx} {e : Expr} {es : List Expr} {te : TE} {t : TA} {pos : Pos}
theorem pa_nil : PA X [] tNil := fun _ _ _ _ H Q I h => Calls.spliced_nil ⟨[], H, I, .nil, h⟩
theorem pa_cons (ha : PE X e te) (hr : PA X es t) (hs : starEach (e :: es) X.env = (false, eval e X.env) :: starEach es X.env := by rfl) : PA X (e :: es) (tCons te t) := by
  intro pos pins s σ H Q I h
  rw [hs]
  show wpAny _ _ (spliced ((false, eval e X.env) :: backTo pos (starEach es X.env))) _ _ s
  refine Calls.spliced_cons (thn (ha pins s σ H _ I h) fun u s1 ⟨x, H1, I1, r1, q1⟩ => ?_)
  exact thn (hr pos pins s1 σ H1 _ I1 q1) fun us s2 ⟨xs, H2, I2, r2, q2⟩ => ⟨x :: xs, H2, I2, .cons r1 r2, q2⟩

/-- a tuple, a list of written items -/
def tTup (t : TA) : TE := fun σ H Q => t σ H fun xs H1 => xs.length ≤ sizeLine ∧ ∀ p, H1 p = none → Q (.ref p) (upd H1 p (.tup xs))
def tLst (t : TA) : TE := fun σ H Q => t σ H fun xs H1 => xs.length ≤ sizeLine ∧ ∀ p, H1 p = none → Q (.ref p) (upd H1 p (.lst xs))
theorem pe_tup {x1} (h : PA X es t) : PE X (.Tuple es x1 pos) (tTup t) := by
  intro pins s σ H Q I hq
  refine wpAny_Tuple_spliced (thn (h pos pins s σ H _ I hq) fun us s1 ⟨xs, H1, I1, r, z, q⟩ => ⟨by rw [← r.length]; exact z, ?_⟩)
  have hf : H1 s1.heap.objs.size = none := I1.hok.fresh (Nat.le_refl _)
  refine ⟨.ref s1.heap.objs.size, upd H1 s1.heap.objs.size (.tup xs), I1.laid (t' := s1.toks) (fun b u e => Heap.get?_push_of_some _ e) (Nat.le_refl _) ?_, rfl, q _ hf⟩
  exact ⟨z, us, r, ⟨_, Heap.get?_push_size _ rfl, rfl, _, rfl⟩⟩
theorem pe_lst (h : PA X es t) : PE X (.List es pos) (tLst t) := by
  intro pins s σ H Q I hq
  refine wpAny_List_spliced (thn (h pos pins s σ H _ I hq) fun us s1 ⟨xs, H1, I1, r, z, q⟩ => ⟨by rw [← r.length]; exact z, ?_⟩)
  have hf : H1 s1.heap.objs.size = none := I1.hok.fresh (Nat.le_refl _)
  refine ⟨.ref s1.heap.objs.size, upd H1 s1.heap.objs.size (.lst xs), I1.laid (t' := s1.toks) (fun b u e => Heap.get?_push_of_some _ e) (Nat.le_refl _) ?_, rfl, q _ hf⟩
  exact ⟨z, us, 0, r, Heap.get?_push_size _ rfl⟩
end

/-- a def's promise: the bound arguments in the parameters' order, the heap, the wanted end, the wanted exception -/
abbrev Sp := List V → Hp → VK → XK → Prop
/-- how an exception lies behind a call (file 08 gives it): the callers' frames, abstract heap and state ahead of the call, the wish, the exception, the state -/
abbrev CXT := List Env → Hp → Shared → XK → Value → Shared → Prop

/-- the state at a call -/
structure Env0 (P : Program) (w : World) (K : PySem.W.Frag) (mg : Str → Option Value) (base : Heap) (A : Around) (outer : List Env) (s : Shared) (H : Hp) : Prop where
  frames : A.frames = some outer
  mod : Mod K mg base
  bs : ∀ b o, base.get? b = some o → s.heap.get? b = some o ∧ H b = none
  bsz : base.objs.size ≤ s.heap.objs.size
  funs : s.heap.FunFrames base outer
  frf : ∀ b ∈ frs outer, H b = none
  hok : HOk P w H s.heap
  bare : AllBare s.gens
/-- a call's end -/
def CE (outer : List Env) (P : Program) (w : World) (H : Hp) (s : Shared) (Q : VK) (u : Value) (s' : Shared) : Prop :=
  ∃ v H', s'.os = s.os ∧ AllBare s'.gens ∧ Un (frs outer) [] H H' s.heap s'.heap ∧ HOk P w H' s'.heap ∧ RelV v u ∧ Q v H'
def CR (CX : CXT) (outer : List Env) (P : Program) (w : World) (H : Hp) (s : Shared) (Q : VK) (E : XK) (r : Result) (s' : Shared) : Prop :=
  match r with
  | .ok (.ret u) => CE outer P w H s Q u s'
  | .ok _ => False
  | .error e => CX outer H s E e s'
structure FnOk (P : Program) (w : World) (K : PySem.W.Frag) (mg : Str → Option Value) (base : Heap) (CX : CXT) (k : Nat) (f : Addr) (fd : FuncData) (ps : List Str) (sp : Sp) : Prop where
  len : ∀ vs H Q E, sp vs H Q E → vs.length = ps.length
  run : ∀ (A : Around) (outer : List Env) (s : Shared) (H : Hp) (args : Args) (us : List Value) (vs : List V) (Q : VK) (E : XK), Room k A → Env0 P w K mg base A outer s H → BindsTo s fd args (ps.zip us) → Vals vs us → sp vs H Q E →
    codeAny (model P w) A (.call (.ref f) args) (CR CX outer P w H s Q E) s
section
variable {X : Cx} {pins : List (Addr × Obj)} {σ : St} {H : Hp} {s s' : Shared}
/-- from a body: what a callee wants -/
theorem Inv.env0 (I : Inv X pins σ H s) : Env0 X.prog X.w X.K X.mg X.base X.A X.stack s H :=
  ⟨I.ok.frames, I.ok.mod, I.bs, Nat.le_trans I.ok.bsz I.sz, I.stack, I.stkFree, I.hok, I.bare⟩
/-- behind a call -/
theorem Inv.after {Q : VK} {u : Value} (I : Inv X pins σ H s) (h : CE X.stack X.prog X.w H s Q u s') : EP X pins σ Q u s' := by
  obtain ⟨v, H', os, bare, un, hok, r, q⟩ := h
  obtain ⟨hh, g, d, t, os'⟩ := s'
  obtain rfl : os' = s.os := os
  exact ⟨v, H', I.call (h' := hh) (g' := g) (d' := d) (t' := t) (ch := []) un hok bare (fun b z => absurd z (by simp)), r, q⟩
end

/-- f(..): the written arguments, then the defaults dvs; E: what is wanted of an exception -/
def tCall (sp : Sp) (dvs : List V) (E : XK) (t : TA) : TE := fun σ H Q => t σ H fun vs H1 => sp (vs ++ dvs) H1 Q E
/-- how the parameters are bound: us the positional arguments, kw the keywords' values by name, ds the defaults that fill up -/
def Binds (K : PySem.W.Frag) (fd : FuncData) (ps : List Str) (ds : List Value) : Prop :=
  ∀ (s : Shared) (us : List Value), K.In s.heap → (us ++ ds).length = ps.length → BindsTo s fd ⟨us, []⟩ (ps.zip (us ++ ds))
/-- every parameter is given -/
theorem Binds.all {K : PySem.W.Frag} {fd : FuncData} {ps : List Str} (h : ∀ us : List Value, us.length = ps.length → bindArgs fd ⟨us, []⟩ = pure (ps.zip us)) : Binds K fd ps [] := fun s us _ hl => by
  rw [List.append_nil] at hl ⊢
  exact .of_eq (h us hl)

/-- an exception of a callee reaches what this body wants of exceptions -/
def Passes (CX : CXT) (X : Cx) (E : XK) : Prop := ∀ (pins : List (Addr × Obj)) (σ : St) (H : Hp) (s : Shared) (e : Value) (s' : Shared), Inv X pins σ H s → CX X.stack H s E e s' → X.xe e s'

section
variable {X : Cx} {CX : CXT} {k : Nat} {f C : Addr} {fd : FuncData} {ps : List Str} {sp : Sp} {dvs : List V} {ds : List Value} {E : XK} {x m : Str} {p pos apos : Pos} {e o : Expr} {es : List Expr} {ta : TE} {t : TA}

/-- the callee runs -/
theorem run_fn {pins : List (Addr × Obj)} {σ : St} {H : Hp} {s : Shared} {Q : VK} {us : List Value} {vs : List V} (F : FnOk X.prog X.w X.K X.mg X.base CX k f fd ps sp) (hr : Room k X.A) (hb : Binds X.K fd ps ds) (hd : Vals dvs ds) (hx : Passes CX X E)
    (I : Inv X pins σ H s) (r : Vals vs us) (h : sp (vs ++ dvs) H Q E) : wpAny (model X.prog X.w) X.A (call (.ref f) us) (EP X pins σ Q) X.xe s := by
  have r2 : Vals (vs ++ dvs) (us ++ ds) := r.append hd
  have hl : (us ++ ds).length = ps.length := by rw [← r2.length]; exact F.len _ _ _ _ h
  refine wpAny_call (codeAny_mono (F.run X.A X.stack s H ⟨us, []⟩ (us ++ ds) (vs ++ dvs) Q E hr I.env0 (hb s us I.kIn hl) r2 h) fun r s' hq => ?_)
  cases r with
  | error e => exact hx pins σ H s e s' I hq
  | ok fl =>
    cases fl with
    | ret u => exact I.after hq
    | next => exact False.elim hq
    | brk => exact False.elim hq
    | cont => exact False.elim hq

theorem pe_call (F : FnOk X.prog X.w X.K X.mg X.base CX k f fd ps sp) (hr : Room k X.A) (hg : Gl X x) (hm : X.mg x = some (.ref f)) (hk : PySem.W.keepIn X.K (.ref f) = true) (hb : Binds X.K fd ps ds) (hd : Vals dvs ds) (hx : Passes CX X E)
    (ha : PA X (e :: es) t) (hdb : (x == ("__debug__" : Str)) = false := by decide) (he : starEach (e :: es) X.env = (false, eval e X.env) :: starEach es X.env := by rfl) (hpl : (backTo pos (starEach es X.env)).any (·.1) = false := by rfl) :
    PE X (.Call (.Name x p) (e :: es) [] pos) (tCall sp dvs E t) := by
  intro pins s σ H Q I h
  refine wpAny_Call_Name_kw (ld_glob I hg hm ?_ hdb)
  refine PySem.W.callWith_K (h₀ := X.base) I.ok.mod.kin hk (thn (ha pos pins s σ H _ I h) fun us s1 ⟨vs, H1, I1, r, q⟩ => ⟨I1.kIn, ?_⟩) he hpl
  exact run_fn F hr hb hd hx I1 r q
end

section
variable {X : Cx} {CX : CXT} {k : Nat} {f C : Addr} {fd : FuncData} {ps ks : List Str} {sp : Sp} {E : XK} {x m : Str} {p pos apos kpos : Pos} {e o : Expr} {es : List Expr} {kws : List Keyword} {te ta : TE} {t tk : TA} {nm : Option Str}
variable {g : List Value → List Value → List Value} {gV : List V → List V → List V}
end

/-- names: the parameters first -/
structure FnScope (N P : List Str) (sc : Scope) : Prop where
  kind : sc.kind = .function
  co : sc.isCoroutine = false
  gen : sc.isGenerator = false
  nd : N.Nodup
  pre : N.take P.length = P
  par : ∀ x ∈ P, sc.names.lookup x = some .local ∨ sc.names.lookup x = some .cell
  nofree : ∀ y ∈ sc.names, y.2 ≠ .free

theorem bindL_out {kindOf : Str → Option NameKind} {x : Str} : ∀ {binds : List (Str × Value)} {m : Str → Option Value}, (∀ v, (x, v) ∉ binds) → bindL kindOf binds m x = m x
  | [], _, _ => rfl
  | (n, v) :: r, m, h => by
    unfold bindL
    rw [bindL_out fun w hw => h w (List.mem_cons_of_mem _ hw)]
    split
    · have : x ≠ n := by rintro rfl; exact h v List.mem_cons_self
      simp [this]
    · rfl
theorem bindC_out {kindOf : Str → Option NameKind} {x : Str} : ∀ {binds : List (Str × Value)} {m : Str → Option Value}, (∀ v, (x, v) ∉ binds) → bindC kindOf binds m x = m x
  | [], _, _ => rfl
  | (n, v) :: r, m, h => by
    unfold bindC
    rw [bindC_out fun w hw => h w (List.mem_cons_of_mem _ hw)]
    split
    · rfl
    · have : x ≠ n := by rintro rfl; exact h v List.mem_cons_self
      simp [this]
theorem bindL_get {kindOf : Str → Option NameKind} {x : Str} {v : Value} : ∀ {P : List Str} {vs : List Value} {i : Nat} {m : Str → Option Value}, P.Nodup → P[i]? = some x → vs[i]? = some v → kindOf x = some .local →
    bindL kindOf (P.zip vs) m x = some v
  | [], _, _, _, _, h, _, _ => by simp at h
  | _ :: _, [], _, _, _, _, h, _ => by simp at h
  | p :: P, w :: vs, 0, m, nd, h1, h2, hk => by
    simp at h1 h2; subst h1; subst h2
    show bindL kindOf ((p, w) :: P.zip vs) m p = _
    unfold bindL
    rw [bindL_out fun v hv => (List.nodup_cons.mp nd).1 (List.of_mem_zip hv).1, if_pos hk]
    simp
  | p :: P, w :: vs, i + 1, m, nd, h1, h2, hk => by
    show bindL kindOf ((p, w) :: P.zip vs) m x = _
    unfold bindL
    exact bindL_get (i := i) (List.nodup_cons.mp nd).2 (by simpa using h1) (by simpa using h2) hk
theorem bindC_get {kindOf : Str → Option NameKind} {x : Str} {v : Value} : ∀ {P : List Str} {vs : List Value} {i : Nat} {m : Str → Option Value}, P.Nodup → P[i]? = some x → vs[i]? = some v → kindOf x ≠ some .local →
    bindC kindOf (P.zip vs) m x = some v
  | [], _, _, _, _, h, _, _ => by simp at h
  | _ :: _, [], _, _, _, _, h, _ => by simp at h
  | p :: P, w :: vs, 0, m, nd, h1, h2, hk => by
    simp at h1 h2; subst h1; subst h2
    show bindC kindOf ((p, w) :: P.zip vs) m p = _
    unfold bindC
    rw [bindC_out fun v hv => (List.nodup_cons.mp nd).1 (List.of_mem_zip hv).1, if_neg hk]
    simp
  | p :: P, w :: vs, i + 1, m, nd, h1, h2, hk => by
    show bindC kindOf ((p, w) :: P.zip vs) m x = _
    unfold bindC
    exact bindC_get (i := i) (List.nodup_cons.mp nd).2 (by simpa using h1) (by simpa using h2) hk

/-- the names' values at the entry -/
def start (N : List Str) (vs : List V) : St := vs.map some ++ List.replicate (N.length - vs.length) none

/-- the context of a def's body, at its entry; an exception leaves the frame, then lies as CX says -/
def cxOf (CX : CXT) (P : Program) (w : World) (K : PySem.W.Frag) (mg : Str → Option Value) (base : Heap) (N : List Str) (qual : Str) (scope : Scope) (f : Addr) (cd : Value) (A : Around) (outer : List Env) (s : Shared) (H : Hp) (E : XK) : Cx where
  prog := P
  w := w
  K := K
  mg := mg
  base := base
  A := A.deeper (envOfC qual scope s.heap.objs.size f cd)
  N := N
  s₀ := s
  H₀ := H
  env := envOfC qual scope s.heap.objs.size f cd
  outer := outer
  stack := envOfC qual scope s.heap.objs.size f cd :: outer
  ex := []
  calm := true
  fn := fun _ => true
  pn := []
  xe := fun e s' => wpAny (model P w) (A.deeper (envOfC qual scope s.heap.objs.size f cd)) (leaving (envOfC qual scope s.heap.objs.size f cd) e) (fun _ s'' => CX outer H s E e s'') (fun e' s'' => CX outer H s E e' s'') s'

theorem cell_has {sc : Scope} {n : Nat} {x : Str} (h : sc.names.lookup x = some .cell) : ∃ c, (cellsFrom n sc.names []).lookup x = some c := by
  have q := PySem.W.cellsFrom_some sc.names n [] (.inl h)
  exact Option.isSome_iff_exists.mp q

theorem inv_start {CX : CXT} {P : Program} {w : World} {K : PySem.W.Frag} {mg : Str → Option Value} {base : Heap} {N ps : List Str} {qual : Str} {scope : Scope} {f : Addr} {cd : Value} {A : Around} {outer : List Env} {s s1 : Shared} {H : Hp} {E : XK} {us : List Value} {vs : List V}
    (S : FnScope N ps scope) (hd : A.handled = none) (e0 : Env0 P w K mg base A outer s H) (hl : vs.length = ps.length) (r : Vals vs us)
    (x : InCallC s s.heap.objs.size (bindL (envOfC qual scope s.heap.objs.size f cd).kindOf (ps.zip us) fun _ => none) (cellsFrom (s.heap.objs.size + 1) scope.names []) (bindC (envOfC qual scope s.heap.objs.size f cd).kindOf (ps.zip us) fun _ => none) s1) :
    Inv (cxOf CX P w K mg base N qual scope f cd A outer s H E) [] (start N vs) H s1 := by
  have hpl : ps.length ≤ N.length := by have := congrArg List.length S.pre; rw [List.length_take] at this; omega
  obtain ⟨h1, tk, rfl, hk⟩ := x.done
  have noA : ∀ b : Addr, b ∉ (cxOf CX P w K mg base N qual scope f cd A outer s H E).ex := fun b z => absurd (show b ∈ ([] : List Addr) from z) (by simp)
  refine ⟨⟨e0.mod, S.kind, rfl, rfl, Nat.le_refl _, fun y z c h1 h2 => ?_, fun y hy => ?_, fun y c _ h => ?_, fun _ => hd, Around.frames_deeper e0.frames, .inr ⟨rfl, rfl⟩, fun b z => absurd z (noA b), e0.bs, e0.bsz, fun b _ _ => noA b, fun b z => absurd z (noA b), e0.funs, e0.frf⟩,
    rfl, e0.bare, Un.kept hk, ⟨_, x.toInCall.ns, fun i y v h1 h2 h3 => ?_⟩, fun y c h => ⟨_, x.cell y c h⟩, e0.hok.fresh (Nat.le_refl _), fun y c h => ?_, fun p hp => absurd (show p ∈ ([] : List (Addr × Obj)) from hp) (by simp), e0.hok.kept hk, ?_⟩
  · exact name_of_addr x.apart (PySem.mem_of_lookup h1) (PySem.mem_of_lookup h2)
  · have hy : scope.names.lookup y = some .cell ∨ scope.names.lookup y = some .free := hy
    rcases hy with hy | hy
    · exact cell_has hy
    · exact absurd rfl (S.nofree _ (PySem.mem_of_lookup hy))
  · exact Nat.le_of_lt (x.above y c (PySem.mem_of_lookup h))
  · have hi : i < vs.length := by
      unfold start at h2
      by_cases hi : i < vs.length
      · exact hi
      · rw [List.getElem?_append_right (by simpa using hi)] at h2
        rw [List.getElem?_replicate] at h2
        split at h2 <;> cases h2
    have ha : vs[i]? = some v := by
      unfold start at h2
      rw [List.getElem?_append_left (by simpa using hi), List.getElem?_map] at h2
      cases e : vs[i]? with
      | none => rw [e] at h2; cases h2
      | some a => rw [e] at h2; cases h2; rfl
    obtain ⟨u, hu, rv⟩ := r.get ha
    have hp : ps[i]? = some y := by
      rw [← S.pre, List.getElem?_take_of_lt (by omega)]; exact h1
    have ndP : ps.Nodup := by rw [← S.pre]; exact S.nd.sublist (List.take_sublist _ _)
    refine ⟨u, rv, ?_⟩
    rcases S.par y (List.mem_of_getElem? hp) with k | k
    · exact .inl ⟨k, bindL_get ndP hp hu k⟩
    · obtain ⟨c, e⟩ := cell_has (n := s.heap.objs.size + 1) k
      refine .inr ⟨.inl k, c, e, ?_⟩
      have q := x.cell y c e
      rw [bindC_get ndP hp hu (by show scope.names.lookup y ≠ _; rw [k]; decide)] at q
      exact q
  · exact e0.hok.fresh (Nat.le_of_lt (x.above y c (PySem.mem_of_lookup h)))
  · unfold start
    show _ = N.length
    rw [List.length_append, List.length_map, List.length_replicate]
    omega

/-- THE RULE: a def (or a method) of the text, by its body. The body's reading t is chosen for each entry; it is run at the parameters' values -/
theorem fn_of {CX : CXT} {P : Program} {w : World} {K : PySem.W.Frag} {mg : Str → Option Value} {base : Heap} {k : Nat} {f : Addr} {name qual : Str} {params : Arguments} {body : List Stmt} {scope : Scope} {dV kV doc pm cdv ct oc : Value} {an od : Option Addr}
    {osl : Array (Option Value)} {N ps : List Str} {sp : Sp} (lk : K.lookup f = some ⟨oc, od, .func (PySem.W.fnOf name qual params body scope dV kV doc pm an cdv ct), osl⟩) (hcd : PySem.W.codeIn K cdv qual = true) (S : FnScope N ps scope)
    (len : ∀ vs H Q E, sp vs H Q E → vs.length = ps.length)
    (hbody : ∀ (A : Around) (outer : List Env) (s : Shared) (H : Hp) (vs : List V) (Q : VK) (E : XK), Room k (A.deeper (envOfC qual scope s.heap.objs.size f cdv)) → sp vs H Q E →
      ∃ t, PSs (cxOf CX P w K mg base N qual scope f cdv A outer s H E) body t ∧ t { nx := fun _ H' => Q .non H', rt := Q } (start N vs) H) :
    FnOk P w K mg base CX (k + 1) f (PySem.W.fnOf name qual params body scope dV kV doc pm an cdv ct) ps sp := by
  refine ⟨len, fun A outer s H args us vs Q E hr e0 hb r hsp => ?_⟩
  have hl := len _ _ _ _ hsp
  have KX : K.In s.heap := e0.mod.kin.keeps fun b o e => (e0.bs b o e).1
  have lim : s.heap.NoLimit := e0.mod.nolimit.keeps fun b o e => (e0.bs b o e).1
  have hkind : ∀ y ∈ ps.zip us, scope.names.lookup y.1 = some .local ∨ (scope.names.lookup y.1 = some .cell ∧ ((cellsFrom (s.heap.objs.size + 1) scope.names []).lookup y.1).isSome = true) := fun ⟨n, v⟩ hy => by
    rcases S.par n (List.of_mem_zip hy).1 with q | q
    · exact .inl q
    · exact .inr ⟨q, PySem.W.cellsFrom_some _ _ _ (.inl q)⟩
  refine codeAny_call_function hr.depth (KX _ _ lk) rfl S.co S.gen rfl (PySem.W.codeRec_of KX hcd) (hb _ _ _ _ ?_)
  refine wpAny_newFunctionEnv_cells S.kind hkind fun env he s1 x => ?_
  subst he
  refine ⟨lim.keeps x.toInCall.keep, codeAny_func ?_⟩
  obtain ⟨t, ht, hq⟩ := hbody A outer s H vs Q E (hr.deeper _) hsp
  have I : Inv (cxOf CX P w K mg base N qual scope f cdv A outer s H E) [] (start N vs) H s1 := inv_start S hr.hd e0 hl r x
  refine wpAny_mono (ht [] s1 (start N vs) H _ I hq) (fun fl s' hs => ?_) fun e s' hs => hs
  have fin : ∀ {σ' : St} {H' : Hp} {v : V} {u : Value}, Inv (cxOf CX P w K mg base N qual scope f cdv A outer s H E) [] σ' H' s' → RelV v u → Q v H' → CE outer P w H s Q u s' :=
    fun {σ' H' v u} J rv q => ⟨v, H', J.os, J.bare, J.base, J.hok, rv, q⟩
  cases fl with
  | ret u =>
    obtain ⟨v, σ', H', J, rv, q⟩ := hs
    exact fin J rv q
  | next =>
    obtain ⟨σ', H', J, q⟩ := hs
    exact fin (v := V.non) (u := Value.none) J rfl q
  | brk =>
    obtain ⟨_, _, _, q⟩ := hs
    exact False.elim q
  | cont =>
    obtain ⟨_, _, _, q⟩ := hs
    exact False.elim q
end L2

namespace L2
open PySem PySem.Spec PyProof.Rows
section
variable {X : Cx} {x : Str} {p pos : Pos} {e : Expr} {es : List Expr} {t : TA} {id T : String} {r : List V → Hp → VK → Prop}

def tCB (r : List V → Hp → VK → Prop) (t : TA) : TE := fun σ H Q => t σ H fun vs H1 => r vs H1 Q
/-- f(e, ..), f a built-in function -/
theorem pe_callB (hc : CallR X (.builtin id) r) (hg : Gl X x) (hm : X.mg x = none) (hv : bootBuiltins x = some (.builtin id)) (ha : PA X (e :: es) t) (hn : x ≠ "__name__" := by decide) (hdb : (x == ("__debug__" : Str)) = false := by decide)
    (he : starEach (e :: es) X.env = (false, eval e X.env) :: starEach es X.env := by rfl) (hpl : (backTo pos (starEach es X.env)).any (·.1) = false := by rfl) : PE X (.Call (.Name x p) (e :: es) [] pos) (tCB r t) := by
  intro pins s σ H Q I h
  refine wpAny_Call_Name_kw (ld_blt I hg hm hv ?_ hn hdb)
  exact PyProof.Rows.callWith_builtin1 (thn (ha pos pins s σ H _ I h) fun us s1 ⟨vs, H1, I1, r1, q1⟩ => hc pins s1 σ H1 vs us Q I1 r1 q1) he hpl
/-- T(e, ..), T a built-in type -/
theorem pe_callTy (hc : CallR X (.type T) r) (hg : Gl X x) (hm : X.mg x = none) (hv : bootBuiltins x = some (.type T)) (ha : PA X (e :: es) t) (hn : x ≠ "__name__" := by decide) (hdb : (x == ("__debug__" : Str)) = false := by decide)
    (he : starEach (e :: es) X.env = (false, eval e X.env) :: starEach es X.env := by rfl) (hpl : (backTo pos (starEach es X.env)).any (·.1) = false := by rfl) : PE X (.Call (.Name x p) (e :: es) [] pos) (tCB r t) := by
  intro pins s σ H Q I h
  refine wpAny_Call_Name_kw (ld_blt I hg hm hv ?_ hn hdb)
  exact PyProof.Rows.callWith_type1 (thn (ha pos pins s σ H _ I h) fun us s1 ⟨vs, H1, I1, r1, q1⟩ => hc pins s1 σ H1 vs us Q I1 r1 q1) he hpl
end
end L2

namespace HT
open PySem PyProof.Rows

section
open PySem.SeqAt
open PySem.AutoSeq1 (wpAny_loadPart')
open PySem.MeetsSeq PySem.MeetsSeq2 PySem.MeetsSeq3

end

section
variable {prog : Program} {w : World} {A : Around} {E : Value → Shared → Prop} {s : Shared}

/-- t + u, t not empty -/
theorem cat_tup {t b : Addr} {vs ws : List Value} {Q : Value → Shared → Prop} (ht : IsTup s.heap t vs.toArray) (hb : IsTup s.heap b ws.toArray) (hv : vs ≠ [])
    (h1 : ws = [] → Q (.ref t) s) (h2 : ws ≠ [] → Q (.ref s.heap.objs.size) { s with heap := s.heap.push { cls := .type "tuple", data := .seq (vs ++ ws).toArray } })
    (hsz : vs.length + ws.length ≤ sizeLine) : wpAny (model prog w) A (binaryOp .Add (.ref t) (.ref b)) Q E s := by
  obtain ⟨⟨cls, dd, data, sl⟩, ho, hc, n, hd⟩ := id ht
  obtain ⟨⟨cls2, dd2, data2, sl2⟩, ho2, hc2, n2, hd2⟩ := id hb
  simp only at hc hd hc2 hd2
  subst hc hd hc2 hd2
  have e : vs.toArray ++ ws.toArray = (vs ++ ws).toArray := by simp
  by_cases hw : ws = []
  · exact concat_meets ⟨_, ho, rfl⟩ ⟨_, ho2, rfl⟩ noFill_tuple_add seq_tuple_add PySem.F.slot_tuple_add PySem.F.entry_tuple_add (PySem.F.args_tuple_add_2 _ _)
      (tuple_addW1 t b vs.toArray ws.toArray n n2 dd dd2 sl sl2 (by simpa using hv) (by simp [hw])) ⟨ho, ho2, h1 hw⟩
  · refine concat_meets ⟨_, ho, rfl⟩ ⟨_, ho2, rfl⟩ noFill_tuple_add seq_tuple_add PySem.F.slot_tuple_add PySem.F.entry_tuple_add (PySem.F.args_tuple_add_2 _ _)
      (tuple_addW2 t b vs.toArray ws.toArray n n2 dd dd2 sl sl2 (by simpa using hv) (by simpa using hw) (by rw [List.size_toArray, List.size_toArray]; exact hsz)) ⟨ho, ho2, ?_⟩
    rw [e]
    exact h2 hw

/-- a slice's bound as a place among n (d where it is left out) -/
def sIx (n d : Nat) : Option Int → Nat
  | none => d
  | some v => if v < 0 then (v + (n : Int)).toNat else min v.toNat n
theorem sIx_none (n d : Nat) : sIx n d none = d := rfl
theorem sIx_nat (n d k : Nat) : sIx n d (some (k : Int)) = min k n := by
  show (if (k : Int) < 0 then ((k : Int) + (n : Int)).toNat else min (k : Int).toNat n) = min k n
  rw [if_neg (by omega), Int.toNat_natCast]
theorem sIx_le (n d : Nat) (hd : d ≤ n) (o : Option Int) : sIx n d o ≤ n := by
  cases o with
  | none => exact hd
  | some v =>
    show (if v < 0 then (v + (n : Int)).toNat else min v.toNat n) ≤ n
    by_cases hv : v < 0
    · rw [if_pos hv]; omega
    · rw [if_neg hv]; exact Nat.min_le_right _ _
theorem clip_eq (v : Int) (n d : Nat) : (if v < 0 then max (v + (n : Int)) 0 else min v (n : Int)) = ((sIx n d (some v) : Nat) : Int) := by
  show (if v < 0 then max (v + (n : Int)) 0 else min v (n : Int)) = (((if v < 0 then (v + (n : Int)).toNat else min v.toNat n) : Nat) : Int)
  by_cases hv : v < 0
  · simp only [if_pos hv]; omega
  · simp only [if_neg hv]; omega
theorem adjust_gen (lo hi : Option Int) (n : Nat) : Builtin.Slice.sliceAdjust lo hi 1 (n : Int) = (((sIx n 0 lo : Nat) : Int), ((sIx n n hi : Nat) : Int)) := by
  have h1 : ¬ ((1 : Int) < 0) := by omega
  unfold Builtin.Slice.sliceAdjust
  simp only [h1, if_false]
  refine Prod.ext ?_ ?_
  · cases lo with
    | none => rfl
    | some v => exact clip_eq v n 0
  · cases hi with
    | none => rfl
    | some v => exact clip_eq v n n
theorem places_gen (i j : Nat) : Builtin.Slice.slicePlaces (i : Int) (j : Int) 1 = j - i := by
  unfold Builtin.Slice.slicePlaces
  have h1 : (1 : Int) > 0 := by omega
  simp only [h1, if_true, Int.ediv_one]
  split <;> omega
theorem slicePart_ {v : Value} {o : Option Int} {Q : Option Int → Shared → Prop} (p : IsPart v o) (h : Q o s) : wpAny (model prog w) A (Builtin.Slice.slicePartIndex v) Q E s := by
  cases p with
  | none => exact slicePart_none h
  | int i t => exact slicePart_int h
theorem sliceApplied_gen {sl : Addr} {vl vu : Value} {lo hi : Option Int} {n : Nat} {Q : Int × Int × Nat → Shared → Prop} (hs : s.heap.IsSliceOf sl vl vu .none) (pl : IsPart vl lo) (pu : IsPart vu hi)
    (h : Q (((sIx n 0 lo : Nat) : Int), 1, sIx n n hi - sIx n 0 lo) s) : wpAny (model prog w) A (Builtin.Slice.sliceApplied (.ref sl) (pure (n : Int))) Q E s := by
  obtain ⟨os, hos, hcs, hds⟩ := id hs
  unfold Builtin.Slice.sliceApplied Builtin.Slice.sliceFields
  refine wpAny_bind (wpAny_bind (wpAny_field hos hds (x := vl) rfl (wpAny_bind (wpAny_field hos hds (x := vu) rfl (wpAny_bind (wpAny_field hos hds (x := .none) rfl (wpAny_pure ?_)))))))
  refine wpAny_bind (slicePart_none ?_)
  show wpAny _ _ (if ((1 : Int) == 0) = true then _ else _) _ _ s
  rw [if_neg (by decide)]
  refine wpAny_bind (slicePart_ pl (wpAny_bind (slicePart_ pu (wpAny_bind (wpAny_pure ?_)))))
  show wpAny _ _ (match Builtin.Slice.sliceAdjust lo hi 1 (n : Int) with | (lo, hi) => pure (lo, (1 : Int), Builtin.Slice.slicePlaces lo hi 1)) _ _ s
  rw [adjust_gen lo hi n]
  show wpAny _ _ (pure (((sIx n 0 lo : Nat) : Int), (1 : Int), Builtin.Slice.slicePlaces ((sIx n 0 lo : Nat) : Int) ((sIx n n hi : Nat) : Int) 1)) _ _ s
  rw [places_gen]
  exact wpAny_pure h
theorem pick_gen (xs : Array Value) (i k : Nat) : ((List.range k).filterMap fun (m : Nat) => xs[((i : Int) + (m : Int) * 1).toNat]?).toArray = ((xs.toList.drop i).take k).toArray := by
  have e : (fun (m : Nat) => xs[((i : Int) + (m : Int) * 1).toNat]?) = fun m => xs[i + m]? := by
    funext m
    have : ((i : Int) + (m : Int) * 1).toNat = i + m := by omega
    rw [this]
  rw [e]
  have := pick_run xs i k
  rw [List.filterMap_map] at this
  have e2 : ((fun x => xs[x]?) ∘ fun x => i + x) = fun m => xs[i + m]? := rfl
  rw [e2] at this
  rw [this]

theorem getItem_tuple_cut {t sl : Addr} {items : Array Value} {vl vu : Value} {lo hi : Option Int} {Q : Value → Shared → Prop} (ht : IsTup s.heap t items) (hs : s.heap.IsSliceOf sl vl vu .none) (pl : IsPart vl lo) (pu : IsPart vu hi)
    (hw : ¬ (sIx items.size 0 lo = 0 ∧ sIx items.size items.size hi = items.size))
    (h : Q (.ref s.heap.objs.size) { s with heap := s.heap.push { cls := .type "tuple", data := .seq ((items.toList.drop (sIx items.size 0 lo)).take (sIx items.size items.size hi - sIx items.size 0 lo)).toArray } })
    (hsz : items.size ≤ sizeLine) : wpAny (model prog w) A (getItem (.ref t) (.ref sl)) Q E s := by
  have htake : sizeOk (.seq ((items.toList.drop (sIx items.size 0 lo)).take (sIx items.size items.size hi - sIx items.size 0 lo)).toArray) := by
    show ((items.toList.drop (sIx items.size 0 lo)).take (sIx items.size items.size hi - sIx items.size 0 lo)).toArray.size ≤ sizeLine
    rw [List.size_toArray, List.length_take, List.length_drop, Array.length_toList]
    omega
  have hj : sIx items.size items.size hi ≤ items.size := sIx_le _ _ (Nat.le_refl _) hi
  obtain ⟨os, hos, hcs, hds⟩ := id hs
  have hTs : s.TypeIs (.ref sl) "slice" := ⟨os, hos, hcs⟩
  unfold getItem
  try with_reducible refine wpAny_holding ?_
  first | refine wpAny_bind (wpAny_pure ?_) | skip
  refine wpAny_bind (wpAny_sequenceKey ht.typeIs (by decide) ?_)
  refine wpAny_bind (wpAny_callSpecial?_slot (name := Str.ofString "__getitem__") ht.typeIs PyProof.Rows.slot_tuple_getitem
    (wpAny_call_entry PyProof.Rows.slot_tuple_getitem ht.typeIs entry_tuple_getitem ?_ (args_tuple_getitem _ _)))
  show wpAny _ _ (Builtin.Tuple.tupleItemsOf (.ref t) >>= _) _ _ s
  refine wpAny_bind (tupleItemsOf_ ht ?_)
  refine wpAny_bind (wpAny_typeOf hTs ?_)
  rw [if_pos (by decide)]
  refine wpAny_bind (sliceApplied_gen hs pl pu ?_)
  have hno : ¬ ((((sIx items.size 0 lo : Nat) : Int) == 0 && (1 : Int) == 1 && (sIx items.size items.size hi - sIx items.size 0 lo) == items.size) = true) := by
    intro q
    rw [Bool.and_eq_true, Bool.and_eq_true] at q
    have q1 : ((sIx items.size 0 lo : Nat) : Int) = 0 := eq_of_beq q.1.1
    have q2 : sIx items.size items.size hi - sIx items.size 0 lo = items.size := eq_of_beq q.2
    exact hw ⟨by omega, by omega⟩
  show wpAny _ _ (if (((sIx items.size 0 lo : Nat) : Int) == 0 && (1 : Int) == 1 && (sIx items.size items.size hi - sIx items.size 0 lo) == items.size) = true then _ else _) _ _ s
  rw [if_neg hno, pick_gen]
  first
    | exact wpAny_bind (m := Builtin.Tuple.tupleExact _) (wpAny_newObj_type (wpAny_pure ⟨_, rfl, wpAny_pure h⟩) htake)
    | exact wpAny_bind (m := Builtin.Tuple.tupleExact _) (wpAny_newObj_type (wpAny_bind (wpAny_pure (wpAny_pure ⟨_, rfl, wpAny_pure h⟩))) htake)
    | exact wpAny_bind (wpAny_bind (m := Builtin.Tuple.tupleExact _) (wpAny_newObj_type (wpAny_pure (wpAny_pure ⟨_, rfl, wpAny_pure h⟩)) htake))
    | exact wpAny_bind (wpAny_bind (m := Builtin.Tuple.tupleExact _) (wpAny_newObj_type (wpAny_pure ⟨_, rfl, wpAny_pure h⟩) htake))
end
end HT

namespace L2
open PySem PySem.Spec PyProof.Rows

abbrev TO := St → Hp → (Option Int → Hp → Prop) → Prop
/-- a slice's part (left out, or an int) -/
def PO (X : Cx) (e : Option Expr) (t : TO) : Prop :=
  ∀ (pins : List (Addr × Obj)) (s : Shared) (σ : St) (H : Hp) (Q : Option Int → Hp → Prop), Inv X pins σ H s → t σ H Q →
    wpAny (model X.prog X.w) X.A (evalPart e X.env) (fun u s' => ∃ o H', Inv X pins σ H' s' ∧ IsPart u o ∧ Q o H') X.xe s
def tNoPart : TO := fun _ H Q => Q none H
def tPart (t : TE) : TO := fun σ H Q => t σ H fun x H1 => ∃ i, x = .int i ∧ Q (some i) H1

theorem intsAre_of {ns : List Int} : ∀ {us : List Value}, Vals (ns.map V.int) us → IntsAre us ns := by
  induction ns with
  | nil => intro us r; rw [List.map_nil] at r; cases r; exact .nil
  | cons n ns ih =>
    intro us r
    rw [List.map_cons] at r
    cases r with
    | cons r1 r2 =>
      obtain ⟨t, e⟩ := r1
      subst e
      exact .cons n t (ih r2)

section
variable {X : Cx} {e : Expr} {te : TE} {lo hi : Option Expr} {tl th : TO} {pos p2 : Pos}

theorem po_none : PO X none tNoPart := by
  intro pins s σ H Q I h
  rw [evalPart_none]
  exact wpAny_pure ⟨none, H, I, .none, h⟩
theorem po_some (h : PE X e te) : PO X (some e) (tPart te) := by
  intro pins s σ H Q I hw
  rw [evalPart_some]
  refine thn (h pins s σ H _ I hw) fun u s1 ⟨x, H1, I1, r1, q1⟩ => ?_
  obtain ⟨i, rfl, q⟩ := q1
  obtain ⟨t, rfl⟩ := r1
  exact ⟨some i, H1, I1, .int i t, q⟩

/-- what a slice of a value is, by values: the slice object stands at sl -/
def SlR (X : Cx) (r : V → Option Int → Option Int → Hp → VK → Prop) : Prop :=
  ∀ (pins : List (Addr × Obj)) (s : Shared) (σ : St) (H : Hp) (x : V) (v vl vu : Value) (lo hi : Option Int) (sl : Addr) (Q : VK), Inv X pins σ H s → RelV x v → s.heap.IsSliceOf sl vl vu .none → IsPart vl lo → IsPart vu hi → r x lo hi H Q →
    ∃ T id, typeLookup (.type T) "__getitem__" = pure (some (.builtin id)) ∧ s.TypeIs v T ∧ wpAny (model X.prog X.w) X.A (getItem v (.ref sl)) (EP X pins σ Q) X.xe s
def tSl (r : V → Option Int → Option Int → Hp → VK → Prop) (te : TE) (tl th : TO) : TE := fun σ H Q => te σ H fun x H1 => tl σ H1 fun l H2 => th σ H2 fun u H3 => r x l u H3 Q
/-- a[lo:hi], any a -/
theorem pe_slice {r : V → Option Int → Option Int → Hp → VK → Prop} (hr : SlR X r) (he : PE X e te) (hl : PO X lo tl) (hu : PO X hi th) : PE X (.Subscript e (.Slice lo hi none p2) pos) (tSl r te tl th) := by
  intro pins s σ H Q I h
  refine Subscript_ (thn (he pins s σ H _ I h) fun v s1 ⟨x, H1, I1, r1, q1⟩ => ?_)
  refine wpAny_Slice (thn (hl pins s1 σ H1 _ I1 q1) fun vl s2 ⟨l, H2, I2, pl, q2⟩ => thn (hu pins s2 σ H2 _ I2 q2) fun vu s3 ⟨u, H3, I3, pu, q3⟩ => ?_)
  rw [evalPart_none]
  refine wpAny_pure ?_
  have I4 : Inv X pins σ H3 { s3 with heap := s3.heap.push { cls := .type "slice", data := .fields #[vl, vu, .none] } } := I3.kept (t' := s3.toks) fun b ob q => Heap.get?_push_of_some _ q
  obtain ⟨T, id, hT, ht, hg⟩ := hr pins { s3 with heap := s3.heap.push { cls := .type "slice", data := .fields #[vl, vu, .none] } } σ H3 x v vl vu l u s3.heap.objs.size Q I4 r1 (Heap.IsSliceOf.new ..) pl pu q3
  show wpAny (model X.prog X.w) X.A (subscriptTail e (.Slice lo hi none p2) v (.ref s3.heap.objs.size)) (EP X pins σ Q) X.xe { s3 with heap := s3.heap.push { cls := .type "slice", data := .fields #[vl, vu, .none] } }
  exact tail_any (ops := [.ref s3.heap.objs.size, v]) ht hT hg (by with_unfolding_all rfl)

/-- the items of xs[lo:hi] -/
def cutV (xs : List V) (lo hi : Option Int) : List V := (xs.drop (HT.sIx xs.length 0 lo)).take (HT.sIx xs.length xs.length hi - HT.sIx xs.length 0 lo)
theorem cutV_length (xs : List V) (lo hi : Option Int) : (cutV xs lo hi).length ≤ xs.length := by
  unfold cutV
  rw [List.length_take, List.length_drop]
  omega
/-- t[lo:hi], not the whole of it (the whole would be t itself) -/
def rSlT (K : PySem.W.Frag) : V → Option Int → Option Int → Hp → VK → Prop := fun x lo hi H Q => ∃ a xs, x = .ref a ∧ SqT K H a xs ∧
  ¬ (HT.sIx xs.length 0 lo = 0 ∧ HT.sIx xs.length xs.length hi = xs.length) ∧ ∀ p, H p = none → Q (.ref p) (upd H p (.tup (cutV xs lo hi)))
theorem sl_tup : SlR X (rSlT X.K) := by
  intro pins s σ H x v vl vu lo hi sl Q I rx hs pl pu h
  obtain ⟨a, xs, rfl, hx, hw, q⟩ := h
  cases rx
  obtain ⟨its, r, ht, hz⟩ := I.tuple hx
  have hlen : its.toArray.size = xs.length := by rw [List.size_toArray]; exact r.length.symm
  refine ⟨"tuple", _, PyProof.Rows.slot_tuple_getitem.lookup, ht.typeIs, ?_⟩
  refine HT.getItem_tuple_cut ht hs pl pu (by rw [hlen]; exact hw) ?_ (by rw [hlen]; exact hz)
  rw [hlen]
  refine ⟨.ref s.heap.objs.size, _, I.laid (t' := s.toks) (o := .tup (cutV xs lo hi)) (fun b ob q => Heap.get?_push_of_some _ q) (Nat.le_refl _) ?_, rfl, q _ (I.hok.fresh (Nat.le_refl _))⟩
  exact ⟨Nat.le_trans (cutV_length xs lo hi) hz, _, (r.drop (HT.sIx xs.length 0 lo)).take (HT.sIx xs.length xs.length hi - HT.sIx xs.length 0 lo), IsTup.new _ _⟩

/-- t + u, t not empty: u empty gives t itself -/
def rCatT (K : PySem.W.Frag) : R2 := fun x y H Q => ∃ a b xs ys, x = .ref a ∧ y = .ref b ∧ SqT K H a xs ∧ SqT K H b ys ∧ xs ≠ [] ∧ xs.length + ys.length ≤ sizeLine ∧
  (ys = [] → Q (.ref a) H) ∧ (ys ≠ [] → ∀ p, H p = none → Q (.ref p) (upd H p (.tup (xs ++ ys))))
theorem Vals.nil_iff {xs : List V} {us : List Value} (r : Vals xs us) : us = [] ↔ xs = [] := by
  cases r with
  | nil => simp
  | cons _ _ => simp
theorem op_catT : OpR X (binaryOp .Add) (rCatT X.K) := by
  intro pins s σ H x y v u Q I rx ry h
  obtain ⟨a, b, xs, ys, rfl, rfl, ha, hb, hx, hz, q1, q2⟩ := h
  cases rx
  cases ry
  obtain ⟨its, r1, p1, _⟩ := I.tuple ha
  obtain ⟨its2, r2, p2, _⟩ := I.tuple hb
  refine HT.cat_tup p1 p2 (fun z => hx (r1.nil_iff.mp z)) (fun z => ⟨.ref a, H, I, rfl, q1 (r2.nil_iff.mp z)⟩) (fun z => ?_) (by rw [← r1.length, ← r2.length]; exact hz)
  refine ⟨.ref s.heap.objs.size, _, I.laid (t' := s.toks) (o := .tup (xs ++ ys)) (fun b ob q => Heap.get?_push_of_some _ q) (Nat.le_refl _) ?_, rfl, q2 (fun w => z (r2.nil_iff.mpr w)) _ (I.hok.fresh (Nat.le_refl _))⟩
  exact ⟨by rw [List.length_append]; exact hz, _, r1.append r2, IsTup.new _ _⟩
end
end L2

namespace L2
open PySem PySem.Spec PyProof.Rows

/-- the place that an index of any sign means -/
def ixN (n : Nat) (i : Int) : Option Nat := if 0 ≤ i then (if i < n then some i.toNat else none) else if -(n : Int) ≤ i then some (i + n).toNat else none
def atI {α : Type} (xs : List α) (i : Int) : Option α := (ixN xs.length i).bind fun j => xs[j]?
theorem ixN_seq {n : Nat} {i : Int} {j : Nat} (h : ixN n i = some j) : seqIndex? i n = some j ∧ j < n ∧ -(n : Int) ≤ i ∧ i < n := by
  unfold ixN at h
  by_cases h0 : 0 ≤ i
  · rw [if_pos h0] at h
    by_cases h1 : i < n
    · rw [if_pos h1] at h
      have e : i.toNat = j := Option.some.inj h
      exact ⟨by rw [seqIndex_of h0 h1, e], by omega, by omega, h1⟩
    · rw [if_neg h1] at h; cases h
  · rw [if_neg h0] at h
    by_cases h1 : -(n : Int) ≤ i
    · rw [if_pos h1] at h
      have e : (i + n).toNat = j := Option.some.inj h
      exact ⟨by rw [seqIndex_neg (by omega) h1, e], by omega, h1, by omega⟩
    · rw [if_neg h1] at h; cases h
theorem atI_get {α : Type} {xs : List α} {i : Int} {v : α} (h : atI xs i = some v) : ∃ j, seqIndex? i xs.length = some j ∧ xs[j]? = some v ∧ j < xs.length ∧ -(xs.length : Int) ≤ i ∧ i < xs.length := by
  unfold atI at h
  cases e : ixN xs.length i with
  | none => rw [e] at h; cases h
  | some j =>
    rw [e] at h
    obtain ⟨h1, h2, h3, h4⟩ := ixN_seq e
    exact ⟨j, h1, h, h2, h3, h4⟩
theorem atI_nat {α : Type} {xs : List α} {j : Nat} {v : α} (h : xs[j]? = some v) : atI xs (j : Int) = some v := by
  have hj : j < xs.length := (List.getElem?_eq_some_iff.mp h).1
  have e : ixN xs.length (j : Int) = some j := by
    unfold ixN
    rw [if_pos (by omega), if_pos (by omega)]; simp
  unfold atI; rw [e]; exact h
/-- what stands as an index of a plain subscript -/
def PlainIx (b : Expr) : Prop := ∀ o i, subscripted b false o i = operate [o, i] (getItem o i)
/-- a subscript by values -/
def IxR (X : Cx) (r : R2) : Prop :=
  ∀ (value slice : Expr) (pins : List (Addr × Obj)) (s : Shared) (σ : St) (H : Hp) (x y : V) (v u : Value) (Q : VK), Inv X pins σ H s → RelV x v → RelV y u → r x y H Q →
    subscripted slice false v u = operate [v, u] (getItem v u) → wpAny (model X.prog X.w) X.A (subscriptTail value slice v u) (EP X pins σ Q) X.xe s
/-- a call of a builtin's method by values: the receiver, the arguments -/
def MtR (X : Cx) (id : String) (r : V → List V → Hp → VK → Prop) : Prop :=
  ∀ (pins : List (Addr × Obj)) (s : Shared) (σ : St) (H : Hp) (x : V) (xs : List V) (v : Value) (us : List Value) (Q : VK), Inv X pins σ H s → RelV x v → Vals xs us → r x xs H Q →
    wpAny (model X.prog X.w) X.A (call (.builtin id) (v :: us)) (EP X pins σ Q) X.xe s
section
variable {X : Cx} {a b : Expr} {ta tb : TE} {pos : Pos}
/-- a[b] -/
theorem pe_ix {r : R2} (hr : IxR X r) (ha : PE X a ta) (hb : PE X b tb) (hs : PlainIx b) : PE X (.Subscript a b pos) (tOp r ta tb) := by
  intro pins s σ H Q I h
  exact Subscript_ (binT ha hb I h fun v u s2 x y H2 I2 rx ry q => hr a b pins s2 σ H2 x y v u Q I2 rx ry q (hs _ _))

def rIxL (K : PySem.W.Frag) : R2 := fun x y H Q => ∃ p xs i v, x = .ref p ∧ y = .int i ∧ SqL K H p xs ∧ atI xs i = some v ∧ Q v H
def rIxT (K : PySem.W.Frag) : R2 := fun x y H Q => ∃ p xs i v, x = .ref p ∧ y = .int i ∧ SqT K H p xs ∧ atI xs i = some v ∧ Q v H
theorem ix_list : IxR X (rIxL X.K) := by
  intro value slice pins s σ H x y v u Q I rx ry h hs
  obtain ⟨p, xs, i, z, rfl, rfl, hq, he, q⟩ := h
  cases rx
  obtain ⟨t, rfl⟩ := ry
  obtain ⟨its, r, pl, hz⟩ := I.list hq
  obtain ⟨j, h1, h2, h3, h4, h5⟩ := atI_get he
  obtain ⟨w, ew, rw'⟩ := r.get h2
  have hl := r.length
  have hn := line63
  have fin : EP X pins σ Q w s := ⟨z, H, I, rw', q⟩
  by_cases h0 : 0 ≤ i
  · have hj : i.toNat = j := by
      rw [seqIndex_of h0 h5] at h1
      exact Option.some.inj h1
    exact item_listR pl.isList h0 (by omega) (by rw [hj]; simpa using ew) fin hs
  · have hj : (i + (its.toArray.size : Int)).toNat = j := by
      rw [seqIndex_neg (by omega) h4] at h1
      rw [List.size_toArray, ← hl]
      exact Option.some.inj h1
    exact subscriptTail_builtinR (x := w) pl.isList.typeIs slot_list_getitem.lookup
      (wpAny_getItem_list_neg (Q := fun r s' => r = w ∧ EP X pins σ Q r s') pl.isList (by omega) (by rw [List.size_toArray] <;> omega) (by omega) (by rw [hj]; simpa using ew) ⟨rfl, fin⟩) hs
theorem ix_tup : IxR X (rIxT X.K) := by
  intro value slice pins s σ H x y v u Q I rx ry h hs
  obtain ⟨p, xs, i, z, rfl, rfl, hq, he, q⟩ := h
  cases rx
  obtain ⟨t, rfl⟩ := ry
  obtain ⟨its, r, pl, hz⟩ := I.tuple hq
  obtain ⟨j, h1, h2, h3, h4, h5⟩ := atI_get he
  obtain ⟨w, ew, rw'⟩ := r.get h2
  have hl := r.length
  have hn := line63
  have fin : EP X pins σ Q w s := ⟨z, H, I, rw', q⟩
  exact subscriptTail_builtinR (x := w) pl.typeIs slot_tuple_getitem.lookup
    (getItem_tuple (j := j) (Q := fun r s' => r = w ∧ EP X pins σ Q r s') pl (by omega) (by omega) (by rw [List.size_toArray, ← hl]; exact h1) (by simpa using ew) ⟨rfl, fin⟩) hs
theorem slice_bounds (lo hi : Option Int) (n : Nat) : (sliceBounds lo hi none n).1 = ((HT.sIx n 0 lo : Nat) : Int) ∧ (sliceBounds lo hi none n).2.1 = ((HT.sIx n n hi : Nat) : Int) ∧ (sliceBounds lo hi none n).2.2 = 1 := by
  refine ⟨?_, ?_, rfl⟩
  · cases lo with
    | none => simp [sliceBounds, HT.sIx]
    | some i =>
      simp only [sliceBounds, HT.sIx, Option.getD_none, show (1 : Int) > 0 by decide, if_true]
      by_cases h : i < 0
      · simp only [h, if_true] <;> omega
      · simp only [h, if_false] <;> omega
  · cases hi with
    | none => simp [sliceBounds, HT.sIx]
    | some i =>
      simp only [sliceBounds, HT.sIx, Option.getD_none, show (1 : Int) > 0 by decide, if_true]
      by_cases h : i < 0
      · simp only [h, if_true] <;> omega
      · simp only [h, if_false] <;> omega
theorem slicePick_cut (its : List Value) (lo hi : Option Int) : slicePick its.toArray lo hi none = ((its.drop (HT.sIx its.length 0 lo)).take (HT.sIx its.length its.length hi - HT.sIx its.length 0 lo)).toArray := by
  obtain ⟨h1, h2, h3⟩ := slice_bounds lo hi its.toArray.size
  unfold slicePick
  rw [h1, h2, h3]
  simp only [sliceRange_one, pick_run, List.size_toArray] <;> rfl
/-- xs[lo:hi] of a list: a new list -/
def rSlL (K : PySem.W.Frag) : V → Option Int → Option Int → Hp → VK → Prop := fun x lo hi H Q => ∃ a xs, x = .ref a ∧ SqL K H a xs ∧ ∀ p, H p = none → Q (.ref p) (upd H p (.lst (cutV xs lo hi)))
theorem sl_list : SlR X (rSlL X.K) := by
  intro pins s σ H x v vl vu lo hi sl Q I rx hs pl pu h
  obtain ⟨a, xs, rfl, hx, q⟩ := h
  cases rx
  obtain ⟨its, r, ht, hz⟩ := I.list hx
  have hlen := r.length
  refine ⟨"list", _, slot_list_getitem.lookup, ht.isList.typeIs, ?_⟩
  refine wpAny_getItem_list_slice ht.isList hs pl pu .none (by simp) ?_ (by rw [List.size_toArray] <;> omega)
  rw [slicePick_cut, ← hlen]
  refine ⟨.ref s.heap.objs.size, _, I.laid (t' := s.toks) (o := .lst (cutV xs lo hi)) (fun b ob q => Heap.get?_push_of_some _ q) (Nat.le_refl _) ?_, rfl, q _ (I.hok.fresh (Nat.le_refl _))⟩
  exact ⟨Nat.le_trans (cutV_length xs lo hi) hz, _, 0, (r.drop (HT.sIx xs.length 0 lo)).take (HT.sIx xs.length xs.length hi - HT.sIx xs.length 0 lo), Heap.get?_push_size _ rfl⟩

def flatV : V → Bool
  | .non => true
  | .bl _ => true
  | .int _ => true
  | .str _ => true
  | _ => false
/-- == of flat values -/
def eqV : V → V → Bool
  | .non, .non => true
  | .bl a, .bl b => a == b
  | .bl a, .int b => (if a then 1 else 0) == b
  | .int a, .bl b => a == (if b then 1 else 0)
  | .int a, .int b => a == b
  | .str a, .str b => a == b
  | _, _ => false
theorem eqAt_V {A : Around} {s : Shared} {y x : V} {u v : Value} (ry : RelV y u) (rx : RelV x v) (fy : flatV y = true) (fx : flatV x = true) : SeqAt.EqAt A s u v (eqV y x) := by
  cases y with
  | non =>
    cases ry
    cases x with
    | non => cases rx; exact SeqAt.EqAt.same _
    | bl b => cases rx; exact SeqAt.EqAt.none_bool b
    | int b => obtain ⟨t, rfl⟩ := rx; exact SeqAt.EqAt.none_int b t
    | str b => obtain ⟨t, rfl⟩ := rx; exact SeqAt.EqAt.none_str b t
    | _ => exact absurd (show false = true from fx) Bool.false_ne_true
  | bl a =>
    cases ry
    cases x with
    | non => cases rx; exact SeqAt.EqAt.bool_none a
    | bl b => cases rx; exact SeqAt.EqAt.bool_bool a b
    | int b => obtain ⟨t, rfl⟩ := rx; exact SeqAt.EqAt.bool_int a b t
    | str b => obtain ⟨t, rfl⟩ := rx; exact SeqAt.EqAt.bool_str a b t
    | _ => exact absurd (show false = true from fx) Bool.false_ne_true
  | int a =>
    obtain ⟨t', rfl⟩ := ry
    cases x with
    | non => cases rx; exact SeqAt.EqAt.int_none a t'
    | bl b => cases rx; exact SeqAt.EqAt.int_bool a t' b
    | int b => obtain ⟨t, rfl⟩ := rx; exact SeqAt.EqAt.int_int a t' b t
    | str b => obtain ⟨t, rfl⟩ := rx; exact SeqAt.EqAt.int_str a t' b t
    | _ => exact absurd (show false = true from fx) Bool.false_ne_true
  | str a =>
    obtain ⟨t', rfl⟩ := ry
    cases x with
    | non => cases rx; exact SeqAt.EqAt.str_none a t'
    | bl b => cases rx; exact SeqAt.EqAt.str_bool a t' b
    | int b => obtain ⟨t, rfl⟩ := rx; exact SeqAt.EqAt.str_int a t' b t
    | str b => obtain ⟨t, rfl⟩ := rx; exact SeqAt.EqAt.str_str a t' b t
    | _ => exact absurd (show false = true from fx) Bool.false_ne_true
  | _ => exact absurd (show false = true from fy) Bool.false_ne_true
/-- the items' answers, read off the values (a value's own answer does not lean on its token) -/
def eqU (x : V) (u : Value) : Bool := match u with
  | .none => eqV .non x
  | .bool b => eqV (.bl b) x
  | .int i _ => eqV (.int i) x
  | .str z _ => eqV (.str z) x
  | _ => false
theorem eqU_of {x y : V} {u : Value} (r : RelV y u) (f : flatV y = true) : eqU x u = eqV y x := by
  cases y with
  | non => cases r; rfl
  | bl b => cases r; rfl
  | int i => obtain ⟨t, rfl⟩ := r; rfl
  | str z => obtain ⟨t, rfl⟩ := r; rfl
  | _ => exact absurd (show false = true from f) Bool.false_ne_true
theorem any_eqU {x : V} : ∀ {xs : List V} {us : List Value}, Vals xs us → xs.all flatV = true → us.any (eqU x) = xs.any fun y => eqV y x
  | _, _, .nil, _ => rfl
  | y :: xs, u :: us, .cons r t, f => by
    rw [List.all_cons, Bool.and_eq_true] at f
    rw [List.any_cons, List.any_cons, eqU_of r f.1, any_eqU t f.2]
theorem mem_eqAt {A : Around} {s : Shared} {x : V} {v : Value} (rx : RelV x v) (fx : flatV x = true) : ∀ {xs : List V} {us : List Value}, Vals xs us → xs.all flatV = true → ∀ u ∈ us, SeqAt.EqAt A s u v (eqU x u)
  | _, _, .nil, _ => fun u hu => by cases hu
  | y :: xs, u :: us, .cons r t, f => fun u' hu => by
    rw [List.all_cons, Bool.and_eq_true] at f
    rcases List.mem_cons.mp hu with rfl | hu
    · rw [eqU_of r f.1]; exact eqAt_V r rx f.1 fx
    · exact mem_eqAt rx fx t f.2 u' hu
def inV (x : V) (xs : List V) : Bool := xs.any fun y => eqV y x
/-- x in a list or tuple of flat items -/
def rIn (K : PySem.W.Frag) (neg : Bool) : R2 := fun x y H Q => ∃ p xs, y = .ref p ∧ (SqL K H p xs ∨ SqT K H p xs) ∧ flatV x = true ∧ xs.all flatV = true ∧ Q (.bl (if neg then !inV x xs else inV x xs)) H
theorem op_in_seq : OpR X (compareOp .In) (rIn X.K false) := by
  intro pins s σ H x y v u Q I rx ry h
  obtain ⟨p, xs, rfl, hq, fx, fs, q⟩ := h
  cases ry
  rcases hq with hq | hq
  · obtain ⟨its, r, pl, hz⟩ := I.list hq
    refine SeqAt.in_listAt (eqU x) pl.isList (fun w hw => mem_eqAt rx fx r fs w (by simpa using hw)) ⟨.bl _, H, I, rfl, ?_⟩
    rw [show its.toArray.any (eqU x) = its.any (eqU x) by simp, any_eqU r fs]
    exact q
  · obtain ⟨its, r, pl, hz⟩ := I.tuple hq
    refine SeqAt.in_tupleAt (eqU x) pl (fun w hw => mem_eqAt rx fx r fs w (by simpa using hw)) ⟨.bl _, H, I, rfl, ?_⟩
    rw [show its.toArray.any (eqU x) = its.any (eqU x) by simp, any_eqU r fs]
    exact q
theorem op_notIn_seq : OpR X (compareOp .NotIn) (rIn X.K true) := by
  intro pins s σ H x y v u Q I rx ry h
  obtain ⟨p, xs, rfl, hq, fx, fs, q⟩ := h
  cases ry
  rcases hq with hq | hq
  · obtain ⟨its, r, pl, hz⟩ := I.list hq
    refine SeqAt.notIn_listAt (eqU x) pl.isList (fun w hw => mem_eqAt rx fx r fs w (by simpa using hw)) ⟨.bl _, H, I, rfl, ?_⟩
    rw [show its.toArray.any (eqU x) = its.any (eqU x) by simp, any_eqU r fs]
    exact q
  · obtain ⟨its, r, pl, hz⟩ := I.tuple hq
    refine SeqAt.notIn_tupleAt (eqU x) pl (fun w hw => mem_eqAt rx fx r fs w (by simpa using hw)) ⟨.bl _, H, I, rfl, ?_⟩
    rw [show its.toArray.any (eqU x) = its.any (eqU x) by simp, any_eqU r fs]
    exact q
theorem call_len_seq : CallR X (.builtin "len") (fun xs H Q => ∃ p ys, xs = [.ref p] ∧ (SqL X.K H p ys ∨ SqT X.K H p ys) ∧ Q (.int ys.length) H) := by
  intro pins s σ H xs us Q I r h
  obtain ⟨p, ys, rfl, hq, q⟩ := h
  obtain ⟨u, rfl, rx⟩ := vals1 r
  cases rx
  have hn := line63
  rcases hq with hq | hq
  · obtain ⟨its, r', pl, hz⟩ := I.list hq
    have hlen := r'.length
    exact Calls.call_len_list pl.isList (by simp only [List.size_toArray] <;> omega) ⟨.int ys.length, H, I.tok _, ⟨s.toks + 1, by rw [List.size_toArray, hlen]⟩, q⟩
  · obtain ⟨its, r', pl, hz⟩ := I.tuple hq
    have hlen := r'.length
    exact len_tuple pl (by simp only [List.size_toArray] <;> omega) ⟨.int ys.length, H, I.tok _, ⟨s.toks + 1, by rw [List.size_toArray, hlen]⟩, q⟩
theorem call_tuple_of : CallR X (.type "tuple") (fun xs H Q => ∃ p ys, xs = [.ref p] ∧ ((SqL X.K H p ys ∧ ∀ l, H l = none → Q (.ref l) (upd H l (.tup ys))) ∨ (SqT X.K H p ys ∧ Q (.ref p) H))) := by
  intro pins s σ H xs us Q I r h
  obtain ⟨p, ys, rfl, h⟩ := h
  obtain ⟨u, rfl, rx⟩ := vals1 r
  cases rx
  rcases h with ⟨hq, q⟩ | ⟨hq, q⟩
  · obtain ⟨its, r', pl, hz⟩ := I.list hq
    have hlen := r'.length
    refine call_tuple_list pl.isList (fun h' kp => ?_) (by simp only [List.size_toArray] <;> omega)
    have I1 : Inv X pins σ H { s with heap := h' } := I.kept (t' := s.toks) kp
    have I2 : Inv X pins σ (upd H h'.objs.size (.tup ys)) { s with heap := h'.push { cls := .type "tuple", data := .seq its.toArray } } :=
      I1.laid (t' := s.toks) (fun b o e => Heap.get?_push_of_some _ e) (Nat.le_refl _) (show ObjOk X.prog X.w _ _ _ (.tup ys) from ⟨hz, its, r', IsTup.new _ _⟩)
    exact ⟨.ref h'.objs.size, _, I2, rfl, q _ (I1.hok.fresh (Nat.le_refl _))⟩
  · obtain ⟨its, r', pl, hz⟩ := I.tuple hq
    exact call_tuple_same pl ⟨.ref p, H, I, rfl, q⟩

/-- the value is of that builtin type -/
def tyV (K : PySem.W.Frag) (T : String) (x : V) (H : Hp) : Prop := match x with
  | .str _ => T = "str"
  | .int _ => T = "int"
  | .ref p => (T = "list" ∧ ∃ xs, SqL K H p xs) ∨ (T = "tuple" ∧ ∃ o, K.lookup p = some o ∧ o.cls = .type "tuple" ∧ o.dict = none) ∨
      (T = "dict" ∧ ((∃ kvs, H p = some (.dK kvs)) ∨ ∃ kvs, H p = some (.dT kvs))) ∨ (T = "set" ∧ ∃ S n, H p = some (.set S n))
  | _ => False
theorem tyV_is {pins : List (Addr × Obj)} {σ : St} {H : Hp} {s : Shared} {T : String} {x : V} {v : Value} (I : Inv X pins σ H s) (r : RelV x v) (ty : tyV X.K T x H) :
    s.TypeIs v T ∧ ∀ a, v = .ref a → ∃ ob, s.heap.get? a = some ob ∧ ob.dict = none := by
  cases x with
  | str z =>
    obtain ⟨t, rfl⟩ := r
    cases (show T = "str" from ty)
    exact ⟨typeIs_str s z t, fun _ e => nomatch e⟩
  | int i =>
    obtain ⟨t, rfl⟩ := r
    cases (show T = "int" from ty)
    exact ⟨typeIs_int s i t, fun _ e => nomatch e⟩
  | ref p =>
    cases r
    rcases ty with ⟨rfl, xs, hq⟩ | ⟨rfl, o, hk, hc, hd⟩ | ⟨rfl, hk⟩ | ⟨rfl, S, n, hk⟩
    · obtain ⟨its, _, pl, _⟩ := I.list hq
      refine ⟨pl.isList.typeIs, fun a e => ?_⟩
      cases e
      obtain ⟨o, n, e, c, hd, _⟩ := pl
      exact ⟨o, e, hd⟩
    · refine ⟨⟨o, I.kIn p o hk, hc⟩, fun a e => ?_⟩
      cases e
      exact ⟨o, I.kIn _ o hk, hd⟩
    · have z : ∃ o, s.heap.get? p = some o ∧ o.ExactDict := by
        rcases hk with ⟨kvs, hk⟩ | ⟨kvs, hk⟩
        · obtain ⟨_, _, _, _, o, _, _, e, ex, _⟩ := I.hok p _ hk
          exact ⟨o, e, ex⟩
        · obtain ⟨_, _, _, _, o, _, _, e, ex, _⟩ := I.hok p _ hk
          exact ⟨o, e, ex⟩
      obtain ⟨o, e, ex⟩ := z
      refine ⟨⟨o, e, ex.1⟩, fun a e2 => ?_⟩
      cases e2
      exact ⟨o, e, ex.2.1⟩
    · obtain ⟨o, _, _, _, e, ex, _⟩ := I.hok p _ hk
      refine ⟨⟨o, e, ex.1⟩, fun a e2 => ?_⟩
      cases e2
      exact ⟨o, e, ex.2.1⟩
  | _ => exact False.elim ty
def tBM0 (K : PySem.W.Frag) (T : String) (r : V → List V → Hp → VK → Prop) (to : TE) : TE := fun σ H Q => to σ H fun x H1 => tyV K T x H1 ∧ r x [] H1 Q
def tBM (K : PySem.W.Frag) (T : String) (r : V → List V → Hp → VK → Prop) (to : TE) (t : TA) : TE := fun σ H Q => to σ H fun x H1 => tyV K T x H1 ∧ t σ H1 fun xs H2 => r x xs H2 Q
variable {o e : Expr} {es : List Expr} {to : TE} {t : TA} {name : Str} {apos cpos : Pos} {T id : String} {r : V → List V → Hp → VK → Prop}
theorem pe_bm0 (pa : PlainAttrs T) (slot : Slot T name id) (hty : typeOf (.builtin id) = pure (.type "method_descriptor")) (hm : MtR X id r) (ho : PE X o to)
    (hbase : attributeBase o name X.env (eval o X.env) = eval o X.env := by rfl) (hline : (apos.endLine == cpos.line) = true := by rfl) : PE X (.Call (.Attribute o name apos) [] [] cpos) (tBM0 X.K T r to) := by
  intro pins s σ H Q I h
  refine wpAny_Call_method0_late hbase hline (thn (ho pins s σ H _ I h) fun v s1 ⟨x, H1, I1, r1, ty, q1⟩ => ?_)
  obtain ⟨h1, h2⟩ := tyV_is I1 r1 ty
  exact ⟨T, id, pa, slot, hty, h1, h2, Calls.callWith_builtin rfl (PySem.evalArgs_none (hm pins s1 σ H1 x [] v [] Q I1 r1 .nil q1))⟩
theorem pe_bm (pa : PlainAttrs T) (slot : Slot T name id) (hty : typeOf (.builtin id) = pure (.type "method_descriptor")) (hm : MtR X id r) (ho : PE X o to) (ha : PA X (e :: es) t)
    (hbase : attributeBase o name X.env (eval o X.env) = eval o X.env := by rfl)
    (hfew : ((backTo cpos (starEach (e :: es) X.env)).all (fun x => !x.1) && (backToKw cpos (keywordEach [] X.env)).all (fun x => x.1.isSome)
      && decide ((e :: es).length + ([] : List Keyword).length + (if ([] : List Keyword).isEmpty then 0 else 1) < 30)) = true := by rfl)
    (hline : (apos.endLine == cpos.line) = true := by rfl) (hs : starEach (e :: es) X.env = (false, eval e X.env) :: starEach es X.env := by rfl) (hplain : (backTo cpos (starEach es X.env)).any (·.1) = false := by rfl) :
    PE X (.Call (.Attribute o name apos) (e :: es) [] cpos) (tBM X.K T r to t) := by
  intro pins s σ H Q I h
  refine wpAny_Call_method_late hbase hfew hline rfl (thn (ho pins s σ H _ I h) fun v s1 ⟨x, H1, I1, r1, ty, q1⟩ => ?_)
  obtain ⟨h1, h2⟩ := tyV_is I1 r1 ty
  refine ⟨T, id, pa, slot, hty, h1, h2, ?_⟩
  have hA := ha cpos pins s1 σ H1 _ I1 q1
  rw [hs] at hA ⊢
  refine Calls.callWith_builtin (by show (false || (backTo cpos (starEach es X.env)).any (·.1)) = false; rw [hplain] <;> rfl) (Calls.evalArgs_plain ?_)
  exact thn hA fun us s2 ⟨vs, H2, I2, r2, q2⟩ => hm pins s2 σ H2 x vs v us Q I2 r1 r2 q2
/- xs.append(e), list.index on a module's tuple .. are MtR facts of 06m -/
end
end L2

namespace L2
open PySem PySem.Spec PyProof.Rows

def MtM (X : Cx) (id : String) (r : V → List V → Hp → VK → Prop) : Prop :=
  ∀ (pins : List (Addr × Obj)) (s : Shared) (σ : St) (H : Hp) (x : V) (xs : List V) (v : Value) (us : List Value) (Q : VK), Inv X pins σ H s → RelV x v → Vals xs us → r x xs H Q →
    wpAny (model X.prog X.w) X.A (call (.builtin id) (v :: us)) (EP X pins σ Q) X.xe s

theorem Vals.one : ∀ {x : V} {us : List Value}, Vals [x] us → ∃ u, us = [u] ∧ RelV x u
  | _, _, .cons r .nil => ⟨_, rfl, r⟩
theorem Vals.zero : ∀ {us : List Value}, Vals [] us → us = []
  | _, .nil => rfl
theorem Vals.rep {xs : List V} {us : List Value} (h : Vals xs us) : ∀ k : Nat, Vals (List.replicate k xs).flatten (List.replicate k us).flatten
  | 0 => .nil
  | k + 1 => by
    rw [List.replicate_succ, List.replicate_succ, List.flatten_cons, List.flatten_cons]
    exact Vals.append h (Vals.rep h k)
theorem erase_last {α : Type} (l : List α) : l.eraseIdx (l.length - 1) = l.dropLast := by
  induction l with
  | nil => rfl
  | cons a r ih =>
    cases r with
    | nil => rfl
    | cons b r =>
      have e : (a :: b :: r).length - 1 = ((b :: r).length - 1) + 1 := by
        have h1 : (a :: b :: r).length = r.length + 2 := rfl
        have h2 : (b :: r).length = r.length + 1 := rfl
        omega
      rw [e, List.eraseIdx_cons_succ, ih]
      all_goals rfl
theorem foldl_rep (its : List Value) : ∀ (k : Nat) (acc : List Value),
    List.foldl (fun x1 x2 => x1 ++ x2) acc.toArray (List.replicate k its.toArray) = (acc ++ (List.replicate k its).flatten).toArray
  | 0, acc => by simp
  | k + 1, acc => by
    have e : acc.toArray ++ its.toArray = (acc ++ its).toArray := by simp
    have e2 : (acc ++ its) ++ (List.replicate k its).flatten = acc ++ (List.replicate (k + 1) its).flatten := by
      rw [List.replicate_succ, List.flatten_cons, List.append_assoc]
    rw [← e2, ← foldl_rep its k (acc ++ its), ← e, List.replicate_succ, List.foldl_cons]

section
variable {X : Cx} {pins : List (Addr × Obj)} {σ : St} {H : Hp} {s : Shared} {l b : Addr} {xs ys zs : List V}

theorem Inv.lset {its its' : List Value} {n : Nat} {f : Array Value → Array Value} {t' : Nat} (I : Inv X pins σ H s) (hH : H l = some (.lst xs))
    (e : s.heap.get? l = some { cls := .type "list", data := .seq its.toArray n }) (hf : f its.toArray = its'.toArray) (hv : Vals ys its') (hz : ys.length ≤ sizeLine) :
    Inv X pins σ (upd H l (.lst ys)) { s with heap := s.heap.update l (Obj.mapSeq f), toks := t' } := by
  have q := PySem.IsL.update e f
  rw [hf] at q
  refine I.write (x := l) (e := l) (by rw [hH]; exact trivial) (.inl rfl) (fun b' u hb hu => (Heap.get?_update_other s.heap (Obj.mapSeq f) (Ne.symm hb)).trans hu) ⟨_, q⟩ ?_
  exact ⟨hz, its', _, hv, q⟩
theorem Inv.lnew {its : List Value} {t' : Nat} (I : Inv X pins σ H s) (hv : Vals ys its) (hz : ys.length ≤ sizeLine) :
    Inv X pins σ (upd H s.heap.objs.size (.lst ys)) { s with heap := s.heap.push { cls := .type "list", data := .seq its.toArray }, toks := t' } :=
  I.laid (fun _ _ q => Heap.get?_push_of_some _ q) (Nat.le_refl _) ⟨hz, its, 0, hv, Heap.get?_push_size _ rfl⟩
theorem Inv.fresh (I : Inv X pins σ H s) : H s.heap.objs.size = none := I.hok.fresh (Nat.le_refl _)
theorem Inv.lstM (I : Inv X pins σ H s) (hH : H l = some (.lst xs)) : xs.length ≤ sizeLine ∧ ∃ (its : List Value) (n : Nat), Vals xs its ∧ xs.length = its.length ∧ s.heap.get? l = some { cls := .type "list", data := .seq its.toArray n } := by
  obtain ⟨z, its, n, r, e⟩ := I.hok l _ hH
  exact ⟨z, its, n, r, r.length, e⟩

theorem notLongL {n : Nat} (h : n ≤ sizeLine) : Builtin.List.listTooLong n = false := by
  unfold Builtin.List.listTooLong
  exact decide_eq_false (by omega)
end

section
variable {X : Cx}

def rAppend : V → List V → Hp → VK → Prop := fun x vs H Q => ∃ l xs y, x = .ref l ∧ vs = [y] ∧ H l = some (.lst xs) ∧ xs.length < sizeLine ∧ Q .non (upd H l (.lst (xs ++ [y])))
theorem mt_append : MtM X "list.append" rAppend := by
  intro pins s σ H x vs v us Q I rx rv h
  obtain ⟨l, xs, y, rfl, rfl, hH, hz, q⟩ := h
  cases rx
  obtain ⟨u, rfl, ru⟩ := rv.one
  obtain ⟨z, its, n, r, hl, e⟩ := I.lstM hH
  refine call_meets F.slot_list_append ⟨_, e, rfl⟩ F.entry_list_append (F.args_list_append_2 _ _) (PySem.list_append l its.toArray n u (by rw [List.size_toArray]; omega)) ⟨e, ?_⟩
  refine ⟨.non, _, I.lset (its' := its ++ [u]) hH e (by simp) (r.append (.cons ru .nil)) ?_, rfl, q⟩
  rw [List.length_append, List.length_singleton]
  omega

def rExtend : V → List V → Hp → VK → Prop := fun x vs H Q => ∃ l b xs zs, x = .ref l ∧ vs = [.ref b] ∧ H l = some (.lst xs) ∧ H b = some (.lst zs) ∧ xs.length + zs.length ≤ sizeLine ∧ Q .non (upd H l (.lst (xs ++ zs)))
theorem mt_extend : MtM X "list.extend" rExtend := by
  intro pins s σ H x vs v us Q I rx rv h
  obtain ⟨l, b, xs, zs, rfl, rfl, hH, hB, hz, q⟩ := h
  cases rx
  obtain ⟨u, rfl, ru⟩ := rv.one
  cases ru
  obtain ⟨z, its, n, r, hl, e⟩ := I.lstM hH
  obtain ⟨z2, its2, n2, r2, hl2, e2⟩ := I.lstM hB
  have hsz : its.toArray.size + its2.toArray.size ≤ sizeLine := by rw [List.size_toArray, List.size_toArray]; omega
  have hlong : ¬ (!its.toArray.isEmpty && Builtin.List.listTooLong (its.toArray.size + its2.toArray.size)) = true := by
    rw [notLongL hsz, Bool.and_false]
    exact Bool.false_ne_true
  refine call_meets F.slot_list_extend ⟨_, e, rfl⟩ F.entry_list_extend (F.args_list_extend_2 _ _)
    (AutoSeq1.list_extend_list_list_0 l its.toArray n b its2.toArray n2 hlong (by rw [List.size_toArray]; omega) (by omega)) ⟨e, e2, ?_⟩
  refine ⟨.non, _, I.lset (its' := its ++ its2) hH e (by simp) (r.append r2) ?_, rfl, q⟩
  rw [List.length_append]
  omega

def rClear : V → List V → Hp → VK → Prop := fun x vs H Q => ∃ l xs, x = .ref l ∧ vs = [] ∧ H l = some (.lst xs) ∧ Q .non (upd H l (.lst []))
theorem mt_clear : MtM X "list.clear" rClear := by
  intro pins s σ H x vs v us Q I rx rv h
  obtain ⟨l, xs, rfl, rfl, hH, q⟩ := h
  cases rx
  have hus := rv.zero
  subst hus
  obtain ⟨z, its, n, r, hl, e⟩ := I.lstM hH
  refine call_meets F.slot_list_clear ⟨_, e, rfl⟩ F.entry_list_clear (F.args_list_clear_1 _) (AutoSeq1.list_clear_list_0 l its.toArray n (by rw [List.size_toArray]; omega)) ⟨e, ?_⟩
  exact ⟨.non, _, I.lset (its' := []) (ys := []) hH e rfl .nil (Nat.zero_le _), rfl, q⟩

def rCat : R2 := fun x y H Q => ∃ l b xs zs, x = .ref l ∧ y = .ref b ∧ H l = some (.lst xs) ∧ H b = some (.lst zs) ∧ xs.length + zs.length ≤ sizeLine ∧ ∀ p, H p = none → Q (.ref p) (upd H p (.lst (xs ++ zs)))
theorem op_cat : OpR X (binaryOp .Add) rCat := by
  intro pins s σ H x y v u Q I rx ry h
  obtain ⟨l, b, xs, zs, rfl, rfl, hH, hB, hz, q⟩ := h
  cases rx
  cases ry
  obtain ⟨z, its, n, r, hl, e⟩ := I.lstM hH
  obtain ⟨z2, its2, n2, r2, hl2, e2⟩ := I.lstM hB
  refine PySem.P.add_list e e2 ?_ (by rw [List.size_toArray, List.size_toArray]; omega)
  have ea : its.toArray ++ its2.toArray = (its ++ its2).toArray := by simp
  rw [ea]
  exact ⟨.ref _, _, I.lnew (t' := s.toks) (r.append r2) (by rw [List.length_append]; omega), rfl, q _ I.fresh⟩
/-- a list times an int (a negative one is nothing) -/
def rRep : R2 := fun x y H Q => ∃ l k xs, x = .ref l ∧ y = .int k ∧ H l = some (.lst xs) ∧ -(2 ^ 63) ≤ k ∧ k < 2 ^ 63 ∧ xs.length * k.toNat ≤ sizeLine ∧
  ∀ p, H p = none → Q (.ref p) (upd H p (.lst (List.replicate k.toNat xs).flatten))
theorem len_rep {α : Type} (xs : List α) (k : Nat) : (List.replicate k xs).flatten.length = k * xs.length := by
  induction k with
  | zero => simp
  | succ k ih => rw [List.replicate_succ, List.flatten_cons, List.length_append, ih, Nat.succ_mul, Nat.add_comm]
theorem op_rep : OpR X (binaryOp .Mult) rRep := by
  intro pins s σ H x y v u Q I rx ry h
  obtain ⟨l, k, xs, rfl, rfl, hH, h1, h2, hz, q⟩ := h
  cases rx
  obtain ⟨t, rfl⟩ := ry
  obtain ⟨z, its, n, r, hl, e⟩ := I.lstM hH
  have hlen : its.toArray.size * k.toNat ≤ sizeLine := by rw [List.size_toArray, ← hl]; exact hz
  have hcap : ¬ its.toArray.size * k.toNat > (2 ^ 63 - 1) / 8 := by
    have : (sizeLine : Nat) ≤ (2 ^ 63 - 1) / 8 := by decide
    omega
  have hfit : ¬ (!Builtin.List.listFitsIndex k) = true := by
    rw [fitsIndex_both h1 h2]
    exact Bool.false_ne_true
  have hlong : ¬ Builtin.List.listTooLong (its.toArray.size * k.toNat) = true := by
    rw [notLongL hlen]
    exact Bool.false_ne_true
  have hnew : List.foldl (fun x1 x2 => x1 ++ x2) #[] (List.replicate (if its.toArray.isEmpty = true then 0 else k.toNat) its.toArray) = (List.replicate k.toNat its).flatten.toArray := by
    have f0 : ∀ m : Nat, List.foldl (fun x1 x2 => x1 ++ x2) #[] (List.replicate m its.toArray) = (List.replicate m its).flatten.toArray := fun m => by
      have := foldl_rep its m []
      rw [List.nil_append] at this
      exact this
    rw [f0]
    cases its with
    | nil => simp
    | cons a r' => rw [if_neg (by simp)]
  refine wpAny_binaryOp_repeat_ref (T := "list") (U := "int") (by decide) ⟨_, e, rfl⟩ (fun s' => typeIs_int s' k t) noFill_list_mul F.fills_int_mul F.slot_int_rmul repeat_list F.slot_int_index.lookup
    (call_meets F.slot_int_rmul (typeIs_int s k t) F.entry_int_rmul (F.args_int_rmul_2 _ _) (int___rmul___int_list k t l its.toArray n)
      ⟨e, rfl, ⟨_, e, rfl⟩, call_meets F.slot_list_mul ⟨_, e, rfl⟩ F.entry_list_mul (F.args_list_mul_2 _ _) (AutoListH.list___mul___list_int_3 l its.toArray n k t hfit hcap hlong) ⟨e, ?_⟩⟩)
  rw [hnew]
  exact ⟨.ref _, _, I.lnew (t' := s.toks) (r.rep k.toNat) (by rw [len_rep, Nat.mul_comm]; exact hz), rfl, q _ I.fresh⟩

end

section
variable {prog : Program} {w : World} {A : Around} {E : Value → Shared → Prop} {s : Shared}
end

section
variable {X : Cx}
end
end L2

namespace Att
open PySem PySem.W PySem.Calls PyProof.Rows

theorem ints_of_wellAll {P : Params} {h : Heap} : ∀ (ns : List Int) (vs : List Value), WellAll P h vs (ns.map WData.int) → IntsAre vs ns := by
  intro ns
  induction ns with
  | nil =>
    intro vs w
    rw [List.map_nil] at w
    cases w
    exact .nil
  | cons n ns ih =>
    intro vs w
    rw [List.map_cons] at w
    cases w with
    | cons a b =>
      cases a
      exact .cons _ _ (ih _ b)

theorem script_of {l : OpenLaw} {n : Nat} (hn : l.most = some n) {P : Params} {h : Heap} {args : List WData} {vals : List Value}
    (hpre : l.row.toRowW.claim.pre args = true) (hwl : WellAll P h vals args) :
    ∃ a vs ns, vals = [Value.ref a] ∧ args = [WData.list (ns.map WData.int)] ∧ h.get? a = some { cls := .type "list", data := .seq vs.toArray } ∧ IntsAre vs ns ∧ ns.length ≤ n := by
  have hsh : WShape.hasAll [] args [.list .int] = true := (pre_splitW hpre).1
  have hc : l.pre.holds [] { args := args } = true := (pre_splitW hpre).2
  obtain ⟨d, r, rfl, h1, h2⟩ := hasAllW_cons hsh
  obtain rfl := hasAllW_nil h2
  obtain ⟨xs, rfl, h3⟩ := hasW_list h1
  obtain ⟨ns, rfl⟩ := items_int h3
  have hlen : ns.length ≤ n := by
    unfold OpenLaw.pre at hc
    have h4 : (WTm.not (.lt (.lit (.int (n : Int))) (.len (.arg 0)))).holds [] { args := [.list (ns.map .int)] } = true := by
      have h4 := (holds_andW hc).1
      rw [hn] at h4
      exact h4
    have h5 := condW_of h4 (w_not (w_lt w_lit (w_len_list (w_arg rfl))))
    rw [List.length_map] at h5
    refine Nat.le_of_not_lt fun q => ?_
    have q' : (n : Int) < ((ns.length : Nat) : Int) := by omega
    first
      | (rw [decide_eq_true q'] at h5; exact absurd h5 (by decide))
      | (simp at h5; omega)
  cases hwl with
  | cons w1 w2 =>
    cases w2
    cases w1 with
    | list ho hall => exact ⟨_, _, ns, rfl, rfl, ho, ints_of_wellAll ns _ hall, hlen⟩

theorem post_true (l : OpenLaw) (args : List WData) : l.row.toRowW.claim.post args (.bool true) args = true :=
  postW_of (r := l.row.toRowW) (X := (true == true))
    (show WShape.has [] (.bool true) .bool = true by first | rfl | decide | simp [WShape.has, WShape.arms, WShape.armsAll])
    (show (WTm.eq .res (.lit (.bool true))).value [] { args := args, res := some (.bool true), after := args } = some (.bool (true == true)) from w_eq_bool (w_res rfl) w_lit) rfl

/-- the same from a codeAny of the CALL (for a layer whose function contracts speak of calls) -/
theorem attach_call {l : OpenLaw} {n : Nat} {q : Program} {loose : List Str} {XP : (Str → Option Value) → Heap → Prop} {YP : World → Heap → Prop} {d : DefRec}
    (hn : l.most = some n) (hdf : d.params.defaults = [])
    (call : ∀ (w : World) (s₀ s₁ : Shared) (mg mb : Str → Option Value) (fa : Addr) (o : Obj) (pm cd doc : Value) (a : Addr) (vs : List Value) (ns : List Int),
      Ground q loose [] XP w s₀ mg mb s₁.heap → YP w s₁.heap →
      s₁.heap.get? fa = some o → o.data = .func (docDef d.name d.params d.body d.scope pm cd doc) → s₁.heap.CodeRec cd d.name → mg d.name = some (.ref fa) →
      s₁.heap.get? a = some { cls := .type "list", data := .seq vs.toArray } → IntsAre vs ns → ns.length ≤ n → s₁.gens = #[] →
      codeAny (model l.prog w) callerA (.call (.ref fa) ⟨[.ref a], []⟩) (fun r s' => r = .ok (.ret (.bool true)) ∧ OldK s₁.heap s'.heap ∧ s'.os = s₁.os ∧ AllBare s'.gens) s₁) :
    WalkO q loose XP YP l.row.toRowW d [] (fun f vs => PySem.call f vs) := by
  intro w s₀ s₁ mg mb G Y fa o pm cd doc dV kV ho hd hcd hD hmg hg args vals as hpre hlay hrd hwl hlo
  obtain rfl : dV = .none := Dflts.none hD hdf
  obtain rfl : kV = .none := Dflts.noKw hD
  obtain ⟨a, vs, ns, rfl, rfl, hobj, hints, hlen⟩ := script_of hn hpre hwl
  refine enter_call (codeAny_mono (call w s₀ s₁ mg mb fa o pm cd doc a vs ns G Y ho (fd_plain hd) hcd hmg hobj hints hlen hg) fun r s' hq => ?_)
  obtain ⟨rfl, h2, h3, h4⟩ := hq
  exact ⟨.inl ⟨.bool true, .bool true, [], rfl, fun _ => rfl, .bool true, post_true l _, fun _ => ⟨List.Pairwise.nil, fun _ hm => (nomatch hm)⟩⟩, h2, h3, h4⟩

section
variable {prog : Program} {w : World} {A : Around} {E : Value → Shared → Prop} {s : Shared} {K : Frag}

end
end Att

namespace L2
open PySem PySem.Spec PyProof.Rows

theorem vals_ints : ∀ {vs : List Value} {ns : List Int}, IntsAre vs ns → Vals (ns.map V.int) vs
  | _, _, .nil => .nil
  | _, _, .cons n t h => .cons ⟨t, rfl⟩ (vals_ints h)

/-- nothing is tracked but the script, known to the object (or it is an object of the module) -/
def Only (H : Hp) : Prop := ∀ b, H b = none ∨ ∃ o xs, H b = some (.frz o (.lst xs))

/-- THE HEAD: the law's promise, at the heap behind the top. F, the promise of the law's def, may use that base is part of the heap (so K.In base, base.Ns mainGlobals mg stand in Mod) -/
theorem law_call {P : Program} {w : World} {K : PySem.W.Frag} {mg mb : Str → Option Value} {CX : CXT} {k : Nat} {fa a : Addr} {fd : FuncData} {x : Str} {sp : Sp} {s₁ : Shared} {vs : List Value} {ns : List Int}
    (KX : K.In s₁.heap) (hns : s₁.heap.Ns mainGlobals mg) (hb : s₁.heap.Ns builtinsNs mb) (hbb : ∀ x : Str, x ≠ "__name__" → mb x = bootBuiltins x) (hlim : s₁.heap.NoLimit) (hg : s₁.gens = #[])
    (ha : s₁.heap.get? a = some { cls := .type "list", data := .seq vs.toArray }) (hi : IntsAre vs ns) (hl : ns.length ≤ sizeLine) (hr : Room k callerA)
    (F : ∀ base : Heap, K.In base → base.Ns mainGlobals mg → FnOk P w K mg base CX k fa fd [x] sp) (hbind : ∀ (s : Shared) (u : Value), BindsTo s fd ⟨[u], []⟩ [(x, u)])
    (hsp : ∀ H : Hp, Only H → SqL K H a (ns.map V.int) → sp [.ref a] H (fun v _ => v = .bl true) fun _ _ _ => False)
    (hCX : ∀ H e s', CX [] H s₁ (fun _ _ _ => False) e s' → False) :
    codeAny (model P w) callerA (.call (.ref fa) ⟨[.ref a], []⟩) (fun r s' => r = .ok (.ret (.bool true)) ∧ OldK s₁.heap s'.heap ∧ s'.os = s₁.os ∧ AllBare s'.gens) s₁ := by
  have rv := vals_ints hi
  have lenV := hi.length
  -- from an abstract heap in which nothing but the script may be tracked
  have core : ∀ H : Hp, Only H → SqL K H a (ns.map V.int) → HOk P w H s₁.heap → (∀ b, H b ≠ none → b = a) → (H a ≠ none → K.lookup a = none) →
      codeAny (model P w) callerA (.call (.ref fa) ⟨[.ref a], []⟩) (fun r s' => r = .ok (.ret (.bool true)) ∧ OldK s₁.heap s'.heap ∧ s'.os = s₁.os ∧ AllBare s'.gens) s₁ := by
    intro H hO hS hok hA hK
    have base_of : ∀ {b : Addr} {o : Obj}, s₁.heap.get? b = some o → H b = none → (hidT s₁.heap H).get? b = some o := fun e n => hidT_get e n
    have noA : ∀ {b : Addr} {o : Obj} {es : Array DictEntry} {ep : Nat}, s₁.heap.get? b = some o → o.data = .dict es ep → H b = none := fun {b o es ep} e d => by
      cases q : H b with
      | none => rfl
      | some u =>
        have e' : b = a := hA b (by rw [q]; simp)
        subst e'
        rw [ha] at e; cases e
        have d' : Data.seq vs.toArray _ = Data.dict es ep := d
        cases d'
    have nsK : ∀ {b : Addr} {m : Str → Option Value}, s₁.heap.Ns b m → (hidT s₁.heap H).Ns b m := fun {b m} ⟨o, es, ep, e, d, r⟩ => ⟨o, es, ep, base_of e (noA e d), d, r⟩
    have hKb : K.In (hidT s₁.heap H) := fun b o e => base_of (KX b o e) (by
      cases q : H b with
      | none => rfl
      | some u =>
        have e' : b = a := hA b (by rw [q]; simp)
        subst e'
        rw [hK (by rw [q]; simp)] at e; cases e)
    have hM : Mod K mg (hidT s₁.heap H) := ⟨hKb, nsK hns, ⟨mb, nsK hb, hbb⟩, let ⟨mc, h1, h2⟩ := hlim; ⟨mc, nsK h1, h2⟩⟩
    have e0 : Env0 P w K mg (hidT s₁.heap H) callerA [] s₁ H := ⟨rfl, hM, fun b o e => of_hidT e, Nat.le_of_eq (hidT_size _ _), trivial, fun b hb => absurd (show b ∈ ([] : List Addr) from hb) (by simp), hok, .of_eq hg⟩
    refine codeAny_mono ((F _ hKb (nsK hns)).run callerA [] s₁ H ⟨[.ref a], []⟩ [.ref a] [.ref a] _ _ hr e0 (hbind s₁ (.ref a)) (.cons rfl .nil) (hsp H hO hS)) fun r s' h => ?_
    cases r with
    | error e => exact (hCX H e s' h).elim
    | ok fl =>
      cases fl with
      | next => exact False.elim h
      | brk => exact False.elim h
      | cont => exact False.elim h
      | ret u =>
        obtain ⟨v, H', os, bare, un, hok', r', q⟩ := h
        have q' : v = .bl true := q
        subst q'
        obtain rfl : u = Value.bool true := r'
        refine ⟨rfl, OldK.of_keep fun b o e => ?_, os, bare⟩
        cases q : H b with
        | none => exact un.keep b o e q (by intro z; exact absurd (show b ∈ ([] : List Addr) from z) (by simp)) (by simp)
        | some u =>
          rcases hO b with z | ⟨ob, xs, z⟩
          · rw [q] at z; cases z
          · have z2 := un.frzs b ob _ z
            obtain ⟨e1, _⟩ := hok b _ z
            obtain ⟨e2, _⟩ := hok' b _ z2
            rw [e] at e1; cases e1
            exact e2
  cases hk : K.lookup a with
  | some o =>
    -- the script is one of the module's own objects
    have e := KX a o hk
    rw [ha] at e
    cases e
    refine core (fun _ => none) (fun _ => .inl rfl) (.inr ⟨_, vs.toArray, _, hk, rfl, rfl, rfl, by rw [List.size_toArray, lenV]; exact hl, by simpa using rv⟩) (fun b u z => by have z' : (none : Option HO) = some u := z; cases z') (fun b z => absurd rfl z) fun z => absurd rfl z
  | none =>
    refine core (fun b => if b = a then some (.frz { cls := .type "list", data := .seq vs.toArray } (.lst (ns.map V.int))) else none) (fun b => ?_) (.inl (.inr ⟨{ cls := .type "list", data := .seq vs.toArray }, if_pos rfl⟩)) (fun b u z => ?_) (fun b z => ?_) fun _ => hk
    · by_cases hb : b = a
      · exact .inr ⟨_, _, if_pos hb⟩
      · exact .inl (if_neg hb)
    · by_cases hb : b = a
      · have z' := (if_pos hb).symm.trans z
        cases z'
        subst hb
        exact ⟨ha, by rw [List.length_map]; exact hl, vs, _, rv, ha⟩
      · have z' := (if_neg hb).symm.trans z
        cases z'
    · by_cases hb : b = a
      · exact hb
      · exact absurd (if_neg hb) z
end L2

namespace L2
open PySem PySem.Spec PyProof.Rows

/-- the goal that k_head leaves (case hc), from the law's promise. F gives the function object fd (K's own) once, then the promise over every base -/
theorem walk_of {l : PySem.W.OpenLaw} {n k : Nat} {q : Program} {loose : List Str} {XP : (Str → Option Value) → Heap → Prop} {YP : World → Heap → Prop} {d : DefRec} {K : Params → PySem.W.Frag} {CX : World → CXT} {sp : World → Sp} {x : Str}
    (hn : l.most = some n) (hn2 : n ≤ sizeLine) (hdf : d.params.defaults = []) (hr : Room k callerA)
    (hY : ∀ (w : World) (h : Heap), YP w h → (K w.params).In h)
    (F : ∀ (w : World) (mg : Str → Option Value) (fa : Addr) (h : Heap), (K w.params).In h → h.Ns mainGlobals mg → mg d.name = some (.ref fa) →
      ∃ fd : FuncData, (∀ (s : Shared) (u : Value), BindsTo s fd ⟨[u], []⟩ [(x, u)]) ∧
        ∀ base : Heap, (K w.params).In base → base.Ns mainGlobals mg → FnOk l.prog w (K w.params) mg base (CX w) k fa fd [x] (sp w))
    (hsp : ∀ (w : World) (H : Hp) (a : Addr) (ns : List Int), ns.length ≤ n → Only H → SqL (K w.params) H a (ns.map V.int) → sp w [.ref a] H (fun v _ => v = .bl true) fun _ _ _ => False)
    (hCX : ∀ (w : World) (H : Hp) (s : Shared) (e : Value) (s' : Shared), CX w [] H s (fun _ _ _ => False) e s' → False) :
    PySem.W.WalkO q loose XP YP l.row.toRowW d [] (fun f vs => PySem.call f vs) := by
  refine Att.attach_call hn hdf fun w s₀ s₁ mg mb fa o pm cd doc a vs ns G Y ho hd hcd hmg hobj hints hlen hg => ?_
  have KX := hY w _ Y
  obtain ⟨fd, hb, hF⟩ := F w mg fa _ KX G.T.g hmg
  exact law_call KX G.T.g G.T.b G.T.builtins G.T.nolimit hg hobj hints (Nat.le_trans hlen hn2) hr hF hb (fun H hO hS => hsp w H a ns hlen hO hS) fun H e s' => hCX w H s₁ e s'
end L2


namespace L2
open PySem PySem.Spec PyProof.Rows

def defArgs (s : Stmt) : Arguments := match s with
  | .FunctionDef _ a _ _ _ _ _ _ _ _ => a
  | _ => { posonlyargs := [], args := [], vararg := none, kwonlyargs := [], kw_defaults := [], kwarg := none, defaults := [] }
def defBody (s : Stmt) : List Stmt := match s with
  | .FunctionDef _ _ b _ _ _ _ _ _ _ => b
  | _ => []
def defScope (s : Stmt) : Scope := match s with
  | .FunctionDef _ _ _ _ _ _ sc _ _ _ => sc
  | _ => { kind := .function, names := [], isGenerator := false, isCoroutine := false }

abbrev CX0 : CXT := fun _ _ _ _ _ _ => False
abbrev E0 : XK := fun _ _ _ => False
theorem pass0 {X : Cx} : Passes CX0 X E0 := fun _ _ _ _ _ _ _ h => h.elim

structure Fun (K : PySem.W.Frag) (x qual : Str) (st : Stmt) (f : Addr) (fd : FuncData) : Prop where
  ex : ∃ (oc : Value) (od : Option Addr) (kV doc pm : Value) (an : Option Addr) (cdv ct : Value) (osl : Array (Option Value)),
    fd = PySem.W.fnOf x qual (defArgs st) (defBody st) (defScope st) .none kV doc pm an cdv ct ∧ K.lookup f = some ⟨oc, od, .func fd, osl⟩ ∧ PySem.W.codeIn K cdv qual = true
  kp : PySem.W.keepIn K (.ref f) = true
section
variable {P : Program} {w : World} {K : PySem.W.Frag} {mg : Str → Option Value} {base : Heap}
/-- THE RULE for a def: its body as a term of rules, and the reading of that term -/
theorem Fun.ok {x qual : Str} {st : Stmt} {f : Addr} {fd : FuncData} {N ps : List Str} {k : Nat} {sp : Sp} (F : Fun K x qual st f fd) (S : FnScope N ps (defScope st)) (len : ∀ vs H Q E, sp vs H Q E → vs.length = ps.length)
    (hbody : ∀ (cdv : Value) (A : Around) (outer : List Env) (s : Shared) (H : Hp) (vs : List V) (Q : VK) (E : XK), Room k (A.deeper (envOfC qual (defScope st) s.heap.objs.size f cdv)) → sp vs H Q E →
      ∃ t, PSs (cxOf CX0 P w K mg base N qual (defScope st) f cdv A outer s H E).nox (defBody st) t ∧ t { nx := fun _ H' => Q .non H', rt := Q } (start N vs) H) : FnOk P w K mg base CX0 (k + 1) f fd ps sp := by
  obtain ⟨oc, od, kV, doc, pm, an, cdv, ct, osl, rfl, lk, hcd⟩ := F.ex
  refine fn_of lk hcd S len fun A outer s H vs Q E hr hsp => ?_
  obtain ⟨t, h, q⟩ := hbody cdv A outer s H vs Q E hr hsp
  exact ⟨t, h.nox, q⟩
/-- how its arguments bind (no defaults): h is «fun _ _ _ _ _ _ us hl => match us, hl with | [_, _], _ => rfl», one _ a parameter -/
theorem Fun.binds {x qual : Str} {st : Stmt} {f : Addr} {fd : FuncData} {ps : List Str} (F : Fun K x qual st f fd)
    (h : ∀ (kV doc pm : Value) (an : Option Addr) (cdv ct : Value) (us : List Value), us.length = ps.length → bindArgs (PySem.W.fnOf x qual (defArgs st) (defBody st) (defScope st) .none kV doc pm an cdv ct) ⟨us, []⟩ = pure (ps.zip us)) : Binds K fd ps [] := by
  obtain ⟨oc, od, kV, doc, pm, an, cdv, ct, osl, rfl, lk, hcd⟩ := F.ex
  exact .all (h kV doc pm an cdv ct)
theorem fun_mk {x qual : Str} {st : Stmt} {f : Addr} {oc : Value} {od an : Option Addr} {osl : Array (Option Value)} {kV doc pm cdv ct : Value} (l : K.lookup f = some ⟨oc, od, .func (PySem.W.fnOf x qual (defArgs st) (defBody st) (defScope st) .none kV doc pm an cdv ct), osl⟩)
    (c : PySem.W.codeIn K cdv qual = true) (k : PySem.W.keepIn K (.ref f) = true) : Fun K x qual st f (PySem.W.fnOf x qual (defArgs st) (defBody st) (defScope st) .none kV doc pm an cdv ct) := ⟨⟨oc, od, kV, doc, pm, an, cdv, ct, osl, rfl, l, c⟩, k⟩
end
theorem hu_of {A : Around} {k : Nat} (hr : Room k A) : A.units + 1 < cLine := Nat.lt_of_le_of_lt (Nat.add_le_add_left (by decide : 1 ≤ 64) _) hr.units
section
variable {X : Cx}
theorem pv (i : Nat) {x : Str} {pos : Pos} (hN : X.N[i]? = some x := by rfl) (hv : Vis X.env.scope x := by first | exact Or.inl rfl | exact Or.inr (Or.inl rfl) | exact Or.inr (Or.inr rfl)) (hd : (x == ("__debug__" : Str)) = false := by decide)
    (hcd : (x == ("__classdict__" : Str)) = false := by decide) : PE X (.Name x pos) (tVar i) := pe_var hN hv hd hcd
end

theorem iteF {A B : Prop} (h : B) : if false = true then A else B := by
  rw [if_neg Bool.false_ne_true]
  exact h
theorem iteT {A B : Prop} (h : A) : if true = true then A else B := by
  rw [if_pos rfl]
  exact h
/-- all that was tracked is as it was -/
def Same (H H' : Hp) : Prop := ∀ b o, H b = some o → H' b = some o
theorem Same.refl (H : Hp) : Same H H := fun _ _ h => h
theorem Same.trans {H H1 H2 : Hp} (a : Same H H1) (b : Same H1 H2) : Same H H2 := fun c o h => b c o (a c o h)
theorem Same.free {H H' : Hp} (e : Same H H') {l : Addr} (h : H' l = Option.none) : H l = Option.none := by
  cases q : H l with
  | none => rfl
  | some o =>
    rw [e l o q] at h
    cases h
theorem Same.seq {K : PySem.W.Frag} {H H' : Hp} {a : Addr} {xs : List V} (e : Same H H') (h : SqL K H a xs) : SqL K H' a xs := by
  rcases h with (h | ⟨o, h⟩) | h
  · exact .inl (.inl (e _ _ h))
  · exact .inl (.inr ⟨o, e _ _ h⟩)
  · exact .inr h

end L2

set_option Elab.async false
set_option linter.all false
set_option maxRecDepth 100000
namespace L2
open PySem PySem.Spec PyProof.Rows

mutual
inductive At (H : Hp) : V → PyData → Prop
  | non : At H .non .none
  | bl (b : Bool) : At H (.bl b) (.bool b)
  | int (i : Int) : At H (.int i) (.int i)
  | str (x : Str) : At H (.str x) (.str x)
  | lst {a : Addr} {vs : List V} {ds : List PyData} : H a = some (.lst vs) → AtAll H vs ds → At H (.ref a) (.list ds)
  | tup {a : Addr} {vs : List V} {ds : List PyData} : H a = some (.tup vs) → AtAll H vs ds → At H (.ref a) (.tuple ds)
inductive AtAll (H : Hp) : List V → List PyData → Prop
  | nil : AtAll H [] []
  | cons {v : V} {d : PyData} {vs : List V} {ds : List PyData} : At H v d → AtAll H vs ds → AtAll H (v :: vs) (d :: ds)
end
mutual
theorem At.same {H H' : Hp} (s : Same H H') : ∀ {v : V} {d : PyData}, At H v d → At H' v d
  | _, _, .non => .non
  | _, _, .bl b => .bl b
  | _, _, .int i => .int i
  | _, _, .str x => .str x
  | _, _, .lst e t => .lst (s _ _ e) (AtAll.same s t)
  | _, _, .tup e t => .tup (s _ _ e) (AtAll.same s t)
theorem AtAll.same {H H' : Hp} (s : Same H H') : ∀ {vs : List V} {ds : List PyData}, AtAll H vs ds → AtAll H' vs ds
  | _, _, .nil => .nil
  | _, _, .cons a b => .cons (At.same s a) (AtAll.same s b)
end
mutual
theorem At.reads {P : Program} {w : World} {H : Hp} {h : Heap} (ok : HOk P w H h) : ∀ {v : V} {d : PyData} {u : Value}, At H v d → RelV v u → ∃ as, Reads h u d as
  | _, _, _, .non, r => by cases r; exact ⟨_, .none⟩
  | _, _, _, .bl b, r => by cases r; exact ⟨_, .bool b⟩
  | _, _, _, .int i, r => by obtain ⟨t, rfl⟩ := r; exact ⟨_, .int i t⟩
  | _, _, _, .str x, r => by obtain ⟨t, rfl⟩ := r; exact ⟨_, .str x t⟩
  | _, _, _, .lst e t, r => by
    cases r
    obtain ⟨z, its, n, rv, ho⟩ := ok _ _ e
    obtain ⟨as, q⟩ := AtAll.reads ok t rv
    exact ⟨_, .list ho rfl rfl (by simpa using q)⟩
  | _, _, _, .tup e t, r => by
    cases r
    obtain ⟨z, its, rv, o, ho, hc, n, hd⟩ := ok _ _ e
    obtain ⟨as, q⟩ := AtAll.reads ok t rv
    exact ⟨_, .tuple ho hc hd (by simpa using q)⟩
theorem AtAll.reads {P : Program} {w : World} {H : Hp} {h : Heap} (ok : HOk P w H h) : ∀ {vs : List V} {ds : List PyData} {us : List Value}, AtAll H vs ds → Vals vs us → ∃ as, ReadsAll h us ds as
  | _, _, _, .nil, .nil => ⟨_, .nil⟩
  | _, _, _, .cons a b, .cons r s => by
    obtain ⟨as, q⟩ := At.reads ok a r
    obtain ⟨bs, q2⟩ := AtAll.reads ok b s
    exact ⟨_, .cons q q2⟩
end
mutual
theorem At.noDict {H : Hp} : ∀ {v : V} {d : PyData}, At H v d → d.hasDict = false
  | _, _, .non => by simp [PyData.hasDict]
  | _, _, .bl b => by simp [PyData.hasDict]
  | _, _, .int i => by simp [PyData.hasDict]
  | _, _, .str x => by simp [PyData.hasDict]
  | _, _, .lst e t => by simp only [PyData.hasDict]; exact AtAll.noDict t
  | _, _, .tup e t => by simp only [PyData.hasDict]; exact AtAll.noDict t
theorem AtAll.noDict {H : Hp} : ∀ {vs : List V} {ds : List PyData}, AtAll H vs ds → PyData.hasDictAll ds = false
  | _, _, .nil => by simp [PyData.hasDictAll]
  | _, _, .cons a b => by simp only [PyData.hasDictAll, At.noDict a, AtAll.noDict b, Bool.or_self]
end
section
variable {X : Cx}
end

section
variable {X : Cx} {pins : List (Addr × Obj)} {σ : St} {H : Hp} {s : Shared} {h' : Heap}
theorem Inv.turnedL {ch : List Addr} {a : Addr} {o : HO} {t' : Nat} (I : Inv X pins σ H s) (k : ∀ b u, b ∉ ch → s.heap.get? b = some u → h'.get? b = some u) (hf : ∀ b ∈ ch, FpOk X pins H b)
    (hp : s.heap.objs.size ≤ a) (new : ObjOk X.prog X.w (upd H a o) h' a o) : Inv X pins σ (upd H a o) { s with heap := h', toks := t' } := by
  have hn : H a = none := I.hok.fresh hp
  have nit : ∀ b u, H b = some u → b ∉ ch := fun b u e z => by rw [(hf b z).1] at e; cases e
  refine I.step (g' := s.gens) (d' := s.drawn) (ch := ch) (fun b hb => ?_) (fun b u _ _ hc e _ => k b u hc e) (fun b u _ _ hc e _ => ⟨u.slots, k b u hc e⟩) (fun b u _ e n => ?_)
    (fun b u hc e => ⟨u, k b u hc e⟩) (fun b xs e => ?_) (fun b u xs e => ?_) (fun b ps e => ⟨#[], ?_⟩) (fun m hm => ?_) (fun b u e => ?_) I.bare
  · obtain ⟨_, f1, _, f3, f4, f5⟩ := hf b hb
    exact ⟨f3, f1, f4, f5⟩
  · rw [upd_ne (Nat.ne_of_lt (Nat.lt_of_lt_of_le (Heap.lt_size e) hp))]; exact n
  · rw [upd_ne (ne_of_none e hn)]; exact e
  · rw [upd_ne (ne_of_none e hn)]; exact e
  · rw [upd_ne (ne_of_none e hn), e]; simp
  · obtain ⟨ob, es, ep, ho, r⟩ := hm
    exact ⟨ob, es, ep, k _ ob (fun z => (hf _ z).2.1 rfl) ho, r⟩
  · by_cases hb : b = a
    · subst hb; rw [upd_same] at e; cases e; exact new
    · rw [upd_ne hb] at e
      refine (I.hok b u e).stay (fun c v hc q => k c v ?_ q) (fun c q => by rw [upd_ne (ne_of_none q hn)]; exact q) fun c xs q => by rw [upd_ne (ne_of_none q hn)]; exact q
      rcases hc with rfl | hc
      · exact nit _ u e
      · exact nit c _ hc
end

def Ite (K : PySem.W.Frag) (a : Addr) : It :=
  ⟨fun i H => ∃ xs x, SqL K H a xs ∧ xs[i]? = some x, fun i H x H' => ∃ p y, H p = none ∧ x = .ref p ∧ H' = upd H p (.tup [.int i, y]) ∧ ∀ xs, SqL K H a xs → xs[i]? = some y, fun i H => ∃ xs, SqL K H a xs ∧ xs.length ≤ i⟩
theorem turn_enum {P : Program} {w : World} {K : PySem.W.Frag} {es : List Expr} {k : Nat} {tp : Pos} (a e it : Addr) (hne : e ≠ it) :
    Turn P w K (.Tuple es k tp) (Ite K a) [e, it] e (fun i h => (∃ old, IsEnum h e it i old) ∧ h.IsListIter it a i) where
  mem := by simp
  obj := fun i h st b hb => by
    obtain ⟨⟨old, he⟩, o, ho, hc, hd⟩ := st
    have hb' : b = e ∨ b = it := by simpa using hb
    rcases hb' with rfl | rfl
    · exact ⟨_, he, fun v z => by
        have z' : Data.fields _ = Data.cell v := z
        cases z'⟩
    · exact ⟨o, ho, fun v z => by rw [hd] at z; cases z⟩
  keep := fun i h h' st kk => ⟨st.1.imp fun _ z => kk e (by simp) _ z, st.2.at fun o z => kk it (by simp) o z⟩
  item := by
    intro X hP hw hK hc i pins s σ H E I hf st hg
    subst hP hw hK
    obtain ⟨xs, x, hq, hx⟩ := hg
    obtain ⟨its, rv, p, hz⟩ := I.list hq
    obtain ⟨u, hu, ru⟩ := rv.get hx
    obtain ⟨⟨old, he⟩, hit⟩ := st
    refine wpAny_pyNext_enum_item he hit p.isList (x := u) (by simpa using hu) hne fun h' ho hit' hT hsz hk => ?_
    have hel : e < s.heap.objs.size := Heap.lt_size he
    have hil : it < s.heap.objs.size := by obtain ⟨_, z, _⟩ := hit; exact Heap.lt_size z
    refine ⟨_, rfl, wpAny_letOwnedTupleGo_enum ho fun h2 he2 hs2 => ?_⟩
    have keep2 : ∀ b ob, b ∉ [e, it] → s.heap.get? b = some ob → h2.get? b = some ob := fun b ob hb z => by
      have h1 : b ≠ e := fun q => hb (by simp [q])
      have h3 : b ≠ it := fun q => hb (by simp [q])
      exact (hs2.2 b h1).trans (hk b ob h1 h3 z)
    have hT2 : h2.get? s.heap.objs.size = some { cls := .type "tuple", data := .seq #[.int i s.toks, u] } := (hs2.2 _ (Nat.ne_of_gt hel)).trans hT
    have fresh : H s.heap.objs.size = none := I.hok.fresh (Nat.le_refl _)
    have new : ObjOk X.prog X.w (upd H s.heap.objs.size (.tup [.int i, x])) h2 s.heap.objs.size (.tup [.int i, x]) :=
      ⟨by show 2 ≤ sizeLine; decide, [.int i s.toks, u], .cons ⟨_, rfl⟩ (.cons ru .nil), ⟨_, hT2, rfl, _, rfl⟩⟩
    refine ⟨.ref s.heap.objs.size, upd H s.heap.objs.size (.tup [.int i, x]), I.turnedL keep2 hf (Nat.le_refl _) new, rfl, ⟨_, x, fresh, rfl, rfl, fun ys hy => by rw [I.list_inj hy hq]; exact hx⟩, ⟨⟨_, by simpa using he2⟩, hit'.at fun o z => (hs2.2 it hne.symm).trans z⟩, fun b hb => ?_⟩
    rw [upd_ne]
    · exact (hf b hb).1
    · have hb' : b = e ∨ b = it := by simpa using hb
      rcases hb' with rfl | rfl
      · exact Nat.ne_of_lt hel
      · exact Nat.ne_of_lt hil
  done := by
    intro X hP hw hK hc i pins s σ H E I hf st hg
    subst hP hw hK
    obtain ⟨xs, hq, hx⟩ := hg
    obtain ⟨its, rv, p, hz⟩ := I.list hq
    obtain ⟨⟨old, he⟩, hit⟩ := st
    have hl := rv.length
    obtain ⟨f0, f1, f2, f3, f4, f5⟩ := hf it (by simp)
    exact wpAny_pyNext_enum_end (I.ok.hd hc) he hit p.isList (by simp; omega) fun h' eb => ⟨rfl, I.turned (t' := s.toks) (fun b o hb z => eb b o hb z) f0 f1 f3 f4 f5⟩
  self := fun _ _ _ _ _ st h => wpAny_pyIter_enum st.1.choose_spec h
def iEnum (K : PySem.W.Frag) (ta : TA) : TI := fun σ H R => ta σ H fun vs H1 => ∃ a xs, vs = [.ref a] ∧ SqL K H1 a xs ∧ R (Ite K a) H1
section
variable {X : Cx}
theorem pi_enum {a : Expr} {ta : TA} {p pos tp : Pos} {es : List Expr} {k : Nat} (hg : Gl X "enumerate") (hm : X.mg "enumerate" = none) (ha : PA X [a] ta) (hs : starEach [a] X.env = [(false, eval a X.env)] := by rfl) :
    PI X (.Tuple es k tp) (.Call (.Name "enumerate" p) [a] [] pos) (iEnum X.K ta) := by
  intro pins s σ H R I h
  refine Call_ (ld_blt I hg hm boot_enumerate (PyProof.Rows.callWith_type1 (thn (ha pos pins s σ H _ I h) fun us s1 ⟨vs, H1, I1, r1, q1⟩ => ?_) hs rfl))
  obtain ⟨l, xs, e, hq, q⟩ := q1
  subst e
  cases r1 with
  | cons r rr =>
    cases rr
    cases r
    obtain ⟨its, rv, pl, hz⟩ := I1.list hq
    refine call_enumerate_list pl.isList fun h' he hit hsz hk => ?_
    refine wpAny_pyIter_enum he ⟨_, [s1.heap.objs.size + 1, s1.heap.objs.size], _, Ite X.K l, H1, rfl, I1.kept (t' := s1.toks) hk, turn_enum l (s1.heap.objs.size + 1) s1.heap.objs.size (Nat.succ_ne_self _), ⟨⟨_, he⟩, hit⟩, fun b hb => ?_, q⟩
    have hb' : b = s1.heap.objs.size + 1 ∨ b = s1.heap.objs.size := by simpa using hb
    rcases hb' with rfl | rfl
    · exact I1.fpOk (Nat.le_succ _) (I1.hok.fresh (Nat.le_succ _))
    · exact I1.fpOk (Nat.le_refl _) (I1.hok.fresh (Nat.le_refl _))
end
theorem for_enum {K : PySem.W.Frag} {a : Addr} {xs : List V} {g : TG} {tb : TS} {D : Ends} {σ : St} {H : Hp} (Pv : Nat → St → Hp → Prop) (h0 : Pv 0 σ H) (hl : ∀ i σ H, i ≤ xs.length → Pv i σ H → SqL K H a xs)
    (hs : ∀ i x p σ H, xs[i]? = some x → Pv i σ H → H p = none → g (.ref p) σ (upd H p (.tup [.int i, x])) fun σ2 H2 => tb { D with nx := Pv (i + 1), ct := Pv (i + 1), bk := D.nx } σ2 H2) (hd : ∀ σ H, Pv xs.length σ H → D.nx σ H) :
    ∃ W : Nat → Nat → St → Hp → Prop, (∃ m, W 0 m σ H) ∧ ∀ i m σ H, W i m σ H →
      ((Ite K a).stop i H ∧ D.nx σ H) ∨ ((Ite K a).go i H ∧ ∃ N : St → Hp → Prop, (∀ σ' H', N σ' H' → ∃ m', m' < m ∧ W (i + 1) m' σ' H') ∧ ∀ x H', (Ite K a).yld i H x H' → g x σ H' fun σ2 H2 => tb { D with nx := N, ct := N, bk := D.nx } σ2 H2) := by
  refine ⟨fun i m σ H => m = xs.length - i ∧ i ≤ xs.length ∧ Pv i σ H, ⟨xs.length, by simp, Nat.zero_le _, h0⟩, ?_⟩
  rintro i m σ H ⟨rfl, hi, p⟩
  have q := hl i σ H hi p
  by_cases hlt : i < xs.length
  · refine .inr ⟨⟨xs, xs[i], q, by simp [hlt]⟩, Pv (i + 1), fun σ' H' p' => ⟨xs.length - (i + 1), by omega, rfl, hlt, p'⟩, fun x H' y => ?_⟩
    obtain ⟨pp, z, hn, e1, e2, y⟩ := y
    subst e1 e2
    exact hs i z pp σ _ (y xs q) p hn
  · have e : i = xs.length := by omega
    subst e
    exact .inl ⟨⟨xs, q, Nat.le_refl _⟩, hd σ H p⟩

section
variable {X : Cx} {tg : Expr}
end
end L2
set_option Elab.async false
set_option linter.all false
set_option maxRecDepth 100000
namespace L2
open PySem PySem.Spec PyProof.Rows

def clOf (cells : List (Str × Addr)) : List (Str × NameKind) → List (Str × Addr) → List (Str × Addr)
  | [], cs => cs
  | (n, k) :: r, cs => if k = .free then clOf cells r ((n, (cells.lookup n).getD 0) :: cs) else clOf cells r cs
theorem closureFor_clOf {scope : Scope} {env : Env} (h : ∀ x ∈ scope.names, x.2 = .free → ∃ c, env.cells.lookup x.1 = some c) : closureFor scope env = pure (clOf env.cells scope.names []) := by
  unfold closureFor
  generalize hn : scope.names = names at h
  suffices hh : ∀ (l : List (Str × NameKind)) (cs : List (Str × Addr)), (∀ x ∈ l, x.2 = .free → ∃ c, env.cells.lookup x.1 = some c) →
      (forIn l cs (fun (x : Str × NameKind) r => if (x.2 == NameKind.free) = true then (do let a ← cellOf env x.1; pure (ForInStep.yield ((x.1, a) :: r))) else pure (ForInStep.yield r)) : Sem (List (Str × Addr))) = pure (clOf env.cells l cs) by
    have := hh names [] h
    simp only [bind_pure]
    exact this
  intro l
  induction l with
  | nil => intro cs _; rfl
  | cons x l ih =>
    intro cs hl
    obtain ⟨n, k⟩ := x
    rw [List.forIn_cons]
    by_cases hk : k = .free
    · subst hk
      obtain ⟨c, hc⟩ := hl (n, .free) List.mem_cons_self rfl
      have e1 : cellOf env n = pure c := by unfold cellOf; rw [hc]
      have ec : clOf env.cells ((n, NameKind.free) :: l) cs = clOf env.cells l ((n, c) :: cs) := by
        show (if NameKind.free = NameKind.free then _ else _) = _
        rw [if_pos rfl, hc]; rfl
      rw [ec]
      simp only [e1, pure_bind, beq_self_eq_true, if_true]
      exact ih _ fun y hy => hl y (List.mem_cons_of_mem _ hy)
    · have hb : (k == NameKind.free) = false := by cases k <;> first | rfl | exact absurd rfl hk
      have ec : clOf env.cells ((n, k) :: l) cs = clOf env.cells l cs := by
        show (if k = NameKind.free then _ else _) = _
        rw [if_neg hk]
      rw [ec]
      simp only [hb, pure_bind, Bool.false_eq_true, if_false]
      exact ih _ fun y hy => hl y (List.mem_cons_of_mem _ hy)
theorem clOf_sound {cells : List (Str × Addr)} : ∀ {l : List (Str × NameKind)} {cs : List (Str × Addr)}, (∀ x ∈ l, x.2 = .free → ∃ c, cells.lookup x.1 = some c) → (∀ p ∈ cs, cells.lookup p.1 = some p.2) → ∀ p ∈ clOf cells l cs, cells.lookup p.1 = some p.2
  | [], _, _, h => h
  | (n, k) :: r, cs, hl, h => by
    unfold clOf
    split
    · rename_i hk
      refine clOf_sound (fun x hx => hl x (List.mem_cons_of_mem _ hx)) fun p hp => ?_
      rcases List.mem_cons.mp hp with rfl | hp
      · obtain ⟨c, hc⟩ := hl (n, k) List.mem_cons_self hk
        show cells.lookup n = some ((cells.lookup n).getD 0)
        have hc' : cells.lookup n = some c := hc
        rw [hc']; rfl
      · exact h p hp
    · exact clOf_sound (fun x hx => hl x (List.mem_cons_of_mem _ hx)) h
theorem lookup_of_mem {l : List (Str × Addr)} {x : Str} (h : ∃ c, (x, c) ∈ l) : ∃ c, l.lookup x = some c := by
  obtain ⟨c, h⟩ := h
  induction l with
  | nil => cases h
  | cons p r ih =>
    obtain ⟨y, d⟩ := p
    by_cases e : (x == y) = true
    · exact ⟨d, by rw [List.lookup_cons, e]⟩
    · have e' : (x == y) = false := by simpa using e
      rcases List.mem_cons.mp h with q | q
      · cases q; exact absurd (beq_self_eq_true _) e
      · obtain ⟨c', z⟩ := ih q
        exact ⟨c', by rw [List.lookup_cons, e']; exact z⟩
theorem clOf_has {cells : List (Str × Addr)} {x : Str} : ∀ {l : List (Str × NameKind)} {cs : List (Str × Addr)}, ((x, NameKind.free) ∈ l ∨ ∃ c, (x, c) ∈ cs) → ∃ c, (x, c) ∈ clOf cells l cs
  | [], _, h => by
    rcases h with h | h
    · cases h
    · exact h
  | (n, k) :: r, cs, h => by
    unfold clOf
    split
    · rename_i hk
      refine clOf_has ?_
      rcases h with h | ⟨c, h⟩
      · rcases List.mem_cons.mp h with q | q
        · cases q; exact .inr ⟨_, List.mem_cons_self⟩
        · exact .inl q
      · exact .inr ⟨c, List.mem_cons_of_mem _ h⟩
    · rename_i hk
      refine clOf_has ?_
      rcases h with h | h
      · rcases List.mem_cons.mp h with q | q
        · cases q; exact absurd rfl hk
        · exact .inl q
      · exact .inr h
theorem relabel_free {env : Env} {x : Str} : ∀ {l : List (Str × NameKind)}, l.lookup x = some .free →
    (l.map fun (n, k) => if (k == NameKind.free && env.scope.kind == .function && env.kindOf n == some .cell) then (n, NameKind.cell) else (n, k)).lookup x = some .cell ∨
    (l.map fun (n, k) => if (k == NameKind.free && env.scope.kind == .function && env.kindOf n == some .cell) then (n, NameKind.cell) else (n, k)).lookup x = some .free
  | [], h => by simp at h
  | (n, k) :: r, h => by
    rw [List.map_cons]
    cases hx : x == n with
    | true =>
      rw [List.lookup_cons, hx] at h
      cases h
      by_cases hc : (NameKind.free == NameKind.free && env.scope.kind == .function && env.kindOf n == some .cell) = true
      · left; simp only [hc, if_true, List.lookup_cons, hx]
      · right; simp only [hc, Bool.false_eq_true, if_false, List.lookup_cons, hx]
    | false =>
      rw [List.lookup_cons, hx] at h
      have ih := relabel_free (env := env) (l := r) h
      by_cases hc : (k == NameKind.free && env.scope.kind == .function && env.kindOf n == some .cell) = true
      · simp only [hc, if_true, List.lookup_cons, hx]; exact ih
      · simp only [hc, Bool.false_eq_true, if_false, List.lookup_cons, hx]; exact ih
theorem relabel_inv {env : Env} {x : Str} : ∀ {l : List (Str × NameKind)}, (∀ y ∈ l, y.2 ≠ .cell) →
    ((l.map fun (n, k) => if (k == NameKind.free && env.scope.kind == .function && env.kindOf n == some .cell) then (n, NameKind.cell) else (n, k)).lookup x = some .cell ∨
    (l.map fun (n, k) => if (k == NameKind.free && env.scope.kind == .function && env.kindOf n == some .cell) then (n, NameKind.cell) else (n, k)).lookup x = some .free) → (x, NameKind.free) ∈ l
  | [], _, h => by simp at h
  | (n, k) :: r, hn, h => by
    rw [List.map_cons] at h
    cases hx : x == n with
    | true =>
      have e : x = n := by simpa using hx
      subst e
      by_cases hc : (k == NameKind.free && env.scope.kind == .function && env.kindOf x == some .cell) = true
      · have : k = .free := by
          simp only [Bool.and_eq_true, beq_iff_eq] at hc
          exact hc.1.1
        subst this
        exact List.mem_cons_self
      · simp only [hc, Bool.false_eq_true, if_false, List.lookup_cons, hx, Option.some.injEq] at h
        rcases h with h | h
        · exact absurd h (hn (x, k) List.mem_cons_self)
        · subst h; exact List.mem_cons_self
    | false =>
      have h' : (r.map fun (n, k) => if (k == NameKind.free && env.scope.kind == .function && env.kindOf n == some .cell) then (n, NameKind.cell) else (n, k)).lookup x = some .cell ∨
          (r.map fun (n, k) => if (k == NameKind.free && env.scope.kind == .function && env.kindOf n == some .cell) then (n, NameKind.cell) else (n, k)).lookup x = some .free := by
        by_cases hc : (k == NameKind.free && env.scope.kind == .function && env.kindOf n == some .cell) = true
        · simp only [hc, if_true, List.lookup_cons, hx] at h; exact h
        · simp only [hc, Bool.false_eq_true, if_false, List.lookup_cons, hx] at h; exact h
      exact List.mem_cons_of_mem _ (relabel_inv (fun y hy => hn y (List.mem_cons_of_mem _ hy)) h')

def cxComp (X : Cx) (M : List Str) (scope : Scope) (C : Addr) (fp : List Addr) (s2 : Shared) (H2 : Hp) : Cx :=
  { prog := X.prog, w := X.w, K := X.K, mg := X.mg, base := X.base, A := X.A, N := M, s₀ := s2, H₀ := H2, env := compEnvC scope (clOf X.env.cells scope.names []) C X.env,
    outer := X.stack, stack := X.stack, ex := fp, fn := fun _ => false, calm := X.calm, pn := [], xe := fun _ _ => False }
/-- the block's names at a turn's start: its own are not known, the others as in the def (slot j) -/
def capS (ix : List (Option Nat)) (σ : St) : St := ix.map fun o => match o with
  | none => none
  | some j => (σ[j]?).getD none
structure CompOk (N M : List Str) (ix : List (Option Nat)) (sc xs : Scope) : Prop where
  kind : sc.kind = .function
  len : M.length = ix.length
  nocell : ∀ y ∈ sc.names, y.2 ≠ .cell
  loc : ∀ y ∈ sc.names, y.2 = .local → sc.names.lookup y.1 = some .local
  fr : ∀ y ∈ sc.names, y.2 = .free → xs.names.lookup y.1 = some .cell ∨ xs.names.lookup y.1 = some .free
  cap : ∀ (i : Nat) (j : Nat), ix[i]? = some (some j) → ∃ x, M[i]? = some x ∧ N[j]? = some x ∧ sc.names.lookup x = some .free
def compOkB (N M : List Str) (ix : List (Option Nat)) (sc xs : Scope) : Bool :=
  decide (sc.kind = .function) && decide (M.length = ix.length) && sc.names.all (fun y => decide (y.2 ≠ .cell)) && sc.names.all (fun y => decide (y.2 ≠ .local) || decide (sc.names.lookup y.1 = some .local)) &&
  sc.names.all (fun y => decide (y.2 ≠ .free) || decide (xs.names.lookup y.1 = some .cell) || decide (xs.names.lookup y.1 = some .free)) &&
  (List.range ix.length).all (fun i => match ix[i]? with
    | some (some j) => match M[i]? with
      | some x => decide (N[j]? = some x) && decide (sc.names.lookup x = some .free)
      | none => false
    | _ => true)
theorem compOk_of {N M : List Str} {ix : List (Option Nat)} {sc xs : Scope} (h : compOkB N M ix sc xs = true) : CompOk N M ix sc xs := by
  unfold compOkB at h
  simp only [Bool.and_eq_true, List.all_eq_true, decide_eq_true_eq, Bool.or_eq_true] at h
  obtain ⟨⟨⟨⟨⟨h1, h2⟩, h3⟩, h4⟩, h5⟩, h6⟩ := h
  refine ⟨h1, h2, h3, fun y hy e => ?_, fun y hy e => ?_, fun i j e => ?_⟩
  · rcases h4 y hy with q | q
    · exact absurd e q
    · exact q
  · rcases h5 y hy with (q | q) | q
    · exact absurd e q
    · exact .inl q
    · exact .inr q
  · have hi : i < ix.length := (List.getElem?_eq_some_iff.mp e).1
    have q := h6 i (List.mem_range.mpr hi)
    rw [e] at q
    cases hm : M[i]? with
    | none => rw [hm] at q; cases q
    | some x =>
      rw [hm] at q
      simp only [Bool.and_eq_true, decide_eq_true_eq] at q
      exact ⟨x, rfl, q.1, q.2⟩

section
variable {X : Cx}
def PTs (X : Cx) (ifs : List Expr) (t : TT) : Prop :=
  ∀ (pins : List (Addr × Obj)) (s : Shared) (σ : St) (H : Hp) (Q : Bool → Hp → Prop), Inv X pins σ H s → t σ H Q →
    wpAny (model X.prog X.w) X.A (forIn ifs true fun c r => if r = true then do let ok ← isTrue c X.env (eval c X.env); pure (ForInStep.yield ok) else pure (ForInStep.yield r)) (TP X pins σ Q) X.xe s
def tYes : TT := fun _ H Q => Q true H
theorem pts_nil : PTs X [] tYes := fun _ _ _ H _ I h => wpAny_tests_nil ⟨H, I, h⟩
theorem pts_one {c : Expr} {t : TT} (h : PT X c t) : PTs X [c] t := fun pins s σ H Q I hq => wpAny_tests_one (h pins s σ H Q I hq)
end
theorem Un.butNew {fs ex : List Addr} {H H' : Hp} {h h1 h2 : Heap} {C : Addr} (u : Un fs ex H H' h h1) (hC : h.objs.size ≤ C) (sb : Heap.SameBut C h1 h2) : Un fs ex H H' h h2 := by
  have ne : ∀ b o, h.get? b = some o → b ≠ C := fun b o e => Nat.ne_of_lt (Nat.lt_of_lt_of_le (Heap.lt_size e) hC)
  refine ⟨fun b o e n h3 h4 => (sb.2 b (ne b o e)).trans (u.keep b o e n h3 h4), fun b o e n h3 h4 => ?_, u.free, fun b o e h4 => ?_, u.tups, u.frzs, u.tbls⟩
  · obtain ⟨sl, q⟩ := u.slot b o e n h3 h4
    exact ⟨sl, (sb.2 b (ne b o e)).trans q⟩
  · obtain ⟨o', q⟩ := u.there b o e h4
    exact ⟨o', (sb.2 b (ne b o e)).trans q⟩
section
variable {X : Cx} {pins : List (Addr × Obj)} {σ : St} {H2 : Hp} {s2 : Shared} {M : List Str} {ix : List (Option Nat)} {scope : Scope} {fp : List Addr}
theorem comp_ok {C : Addr} (I : Inv X pins σ H2 s2) (ck : CompOk X.N M ix scope X.env.scope) (hC : s2.heap.objs.size ≤ C) (f2 : ∀ b ∈ fp, FpOk X pins H2 b) (hfp : ∀ b ∈ fp, b < s2.heap.objs.size) : (cxComp X M scope C fp s2 H2).Ok := by
  have hfree : ∀ x ∈ scope.names, x.2 = .free → ∃ c, X.env.cells.lookup x.1 = some c := fun x hx e => I.ok.has x.1 (ck.fr x hx e)
  have snd : ∀ x c, (clOf X.env.cells scope.names []).lookup x = some c → X.env.cells.lookup x = some c := fun x c e => clOf_sound (cs := []) hfree (by intro p hp; cases hp) (x, c) (PySem.mem_of_lookup e)
  refine ⟨I.ok.mod, ck.kind, I.ok.glob, I.ok.blt, hC, fun x y c h1 h2 => I.ok.inj x y c (snd x c h1) (snd y c h2), fun x hx => ?_, (by intro x c h; cases h), I.ok.hd, I.ok.frames, .inl rfl, fun b hb => ⟨?_, fun x c e => ?_⟩, fun b o e => I.bs b o e,
    Nat.le_trans I.ok.bsz I.sz, fun b o e hb => ?_, fun b hb hb2 => ?_, I.stack, I.stkFree⟩
  · exact lookup_of_mem (clOf_has (.inl (relabel_inv ck.nocell hx)))
  · exact Nat.ne_of_lt (Nat.lt_of_lt_of_le (hfp b hb) hC)
  · exact (f2 b hb).2.2.2.2.1 x c (snd x c e)
  · rcases (f2 b hb).2.2.2.1 with z | z
    · exact I.ok.noex b o e z
    · exact absurd (Nat.lt_of_lt_of_le (Heap.lt_size e) (Nat.le_trans I.ok.bsz z)) (Nat.lt_irrefl _)
  · obtain ⟨_, n1, n2, _⟩ := f2 b hb
    rcases List.mem_cons.mp (I.stkSub b hb2) with z | z
    · exact n1 z
    · exact n2 z
theorem comp_inv {C D : Addr} {h1 : Heap} {tk : Nat} (I : Inv X pins σ H2 s2) (ck : CompOk X.N M ix scope X.env.scope) (hC : s2.heap.objs.size ≤ C) (hD : s2.heap.objs.size ≤ D) (hDC : C ≠ D) (f2 : ∀ b ∈ fp, FpOk X pins H2 b) (hfp : ∀ b ∈ fp, b < s2.heap.objs.size)
    (old : ∀ b o, s2.heap.get? b = some o → h1.get? b = some o) (hn : h1.Ns C fun _ => none) (hnew : h1.get? D = some { cls := .type "list", data := .seq #[] }) :
    Inv (cxComp X M scope C fp s2 H2) [] (capS ix σ) (upd H2 D (.lst [])) { s2 with heap := h1, toks := tk } := by
  have hfree : ∀ x ∈ scope.names, x.2 = .free → ∃ c, X.env.cells.lookup x.1 = some c := fun x hx e => I.ok.has x.1 (ck.fr x hx e)
  have snd : ∀ x c, (clOf X.env.cells scope.names []).lookup x = some c → X.env.cells.lookup x = some c := fun x c e => clOf_sound (cs := []) hfree (by intro p hp; cases hp) (x, c) (PySem.mem_of_lookup e)
  have fD : H2 D = none := I.hok.fresh hD
  refine ⟨comp_ok I ck hC f2 hfp, rfl, I.bare, Un.laid old hD fD, ⟨_, hn, fun i x v e1 e2 e3 => ?_⟩, fun x c e => ?_, ?_, fun x c e => ?_, (by intro p hp; cases hp), I.hok.laid (o := .lst []) old hD ⟨Nat.zero_le _, [], 0, .nil, hnew⟩, ?_⟩
  · obtain ⟨j, hj, hv⟩ : ∃ j, ix[i]? = some (some j) ∧ σ[j]? = some (some v) := by
      unfold capS at e2
      rw [List.getElem?_map] at e2
      cases q : ix[i]? with
      | none => rw [q] at e2; cases e2
      | some o =>
        rw [q] at e2
        cases o with
        | none => cases e2
        | some j =>
          refine ⟨j, rfl, ?_⟩
          have e2' : (σ[j]?).getD none = some v := Option.some.inj e2
          cases z : σ[j]? with
          | none => rw [z] at e2'; cases e2'
          | some y => rw [z] at e2'; rw [show y = some v from e2']
    obtain ⟨y, hm, hN, hf⟩ := ck.cap i j hj
    have e1' : M[i]? = some x := e1
    rw [hm] at e1'; cases e1'
    obtain ⟨m, hnl, hl⟩ := I.loc
    have hmem : (x, NameKind.free) ∈ scope.names := PySem.mem_of_lookup hf
    have hk := ck.fr _ hmem rfl
    obtain ⟨u, ru, lk⟩ := hl j x v hN hv (hk.elim (fun z => .inr (.inl z)) fun z => .inr (.inr z))
    refine ⟨u, ru, .inr ⟨relabel_free hf, ?_⟩⟩
    rcases lk with ⟨kl, _⟩ | ⟨_, c, hc, hcell⟩
    · have kl' : X.env.scope.names.lookup x = some .local := kl
      rcases hk with z | z
      · rw [z] at kl'; cases kl'
      · rw [z] at kl'; cases kl'
    · obtain ⟨c2, h2⟩ := lookup_of_mem (clOf_has (cells := X.env.cells) (cs := []) (.inl hmem))
      have h3 := snd x c2 h2
      rw [hc] at h3; cases h3
      obtain ⟨o, ho, hd⟩ := hcell
      exact ⟨c, h2, o, old c o ho, hd⟩
  · obtain ⟨v, o, ho, hd⟩ := I.cell x c (snd x c e)
    exact ⟨v, o, old c o ho, hd⟩
  · show upd H2 D (.lst []) C = none
    rw [upd_ne hDC]
    exact I.hok.fresh hC
  · show upd H2 D (.lst []) c = none
    obtain ⟨v, z⟩ := I.cell x c (snd x c e)
    rw [upd_ne (Nat.ne_of_lt (Nat.lt_of_lt_of_le z.lt hD))]
    exact I.freeC x c (snd x c e)
  · show (capS ix σ).length = M.length
    unfold capS
    rw [List.length_map, ck.len]
theorem comp_back {C : Addr} {σ' : St} {H' : Hp} {s' : Shared} {h2 : Heap} {pl : List (Addr × Obj)} (I : Inv X pins σ H2 s2) (J : Inv (cxComp X M scope C fp s2 H2) pl σ' H' s') (f2 : ∀ b ∈ fp, FpOk X pins H2 b) (sb : Heap.SameBut C s'.heap h2) : Inv X pins σ H' { s' with heap := h2 } := by
  have hC : s2.heap.objs.size ≤ C := J.ok.above
  refine I.call' (s' := { s' with heap := h2 }) (ch := fp) J.os (Un.butNew J.base hC sb) (fun a o e => ?_) J.bare fun b hb => ?_
  · have fr : H' C = none := J.free
    refine (J.hok a o e).stay (fun c v hc q => (sb.2 c ?_).trans q) (fun _ q => q) fun _ _ q => q
    rintro rfl
    rcases hc with z | z
    · rw [← z, fr] at e; cases e
    · rw [fr] at z; cases z
  · obtain ⟨_, n1, _, n3, n4, n5⟩ := f2 b hb
    exact ⟨n3, n1, n4, n5⟩
end
def KeepS (l l' : St) : Prop := l'.length = l.length ∧ ∀ (i : Nat) (v : V), l[i]? = some (some v) → l'[i]? = some (some v)
theorem KeepS.refl (l : St) : KeepS l l := ⟨rfl, fun _ _ h => h⟩
theorem KeepS.set {l l' : St} {i : Nat} {x : Option V} (h : KeepS l l') (hi : l[i]? = some none) : KeepS l (l'.set i x) := by
  refine ⟨by rw [List.length_set]; exact h.1, fun j v e => ?_⟩
  by_cases hj : j = i
  · subst hj; rw [hi] at e; cases e
  · rw [List.getElem?_set_ne (Ne.symm hj)]; exact h.2 j v e
/-- [e for target in iter if ..] -/
def tComp (wi : TI) (ix : List (Option Nat)) (g : TG) (tt : TT) (te : TE) : TE := fun σ H Q => wi σ H fun J H1 => ∀ D, H1 D = none → ∃ W : Nat → Nat → Hp → Prop, (∃ m, W 0 m (upd H1 D (.lst []))) ∧ ∀ i m H, W i m H →
  (J.stop i H ∧ Q (.ref D) H) ∨ (J.go i H ∧ ∃ N : Hp → Prop, (∀ H', N H' → ∃ m', m' < m ∧ W (i + 1) m' H') ∧ ∀ x H', J.yld i H x H' → g x (capS ix σ) H' fun σ2 H2 => KeepS (capS ix σ) σ2 ∧ tt σ2 H2 fun b H3 =>
    if b = true then te σ2 H3 fun v H4 => ∃ ys, H4 D = some (.lst ys) ∧ ys.length < sizeLine ∧ N (upd H4 D (.lst (ys ++ [v]))) else N H3)
section
variable {X : Cx} {elt tg iter : Expr} {ifs : List Expr} {scope : Scope} {pos : Pos} {wi : TI} {g : TG} {tt : TT} {te : TE} {M : List Str} {ix : List (Option Nat)}
theorem comp_loop {pins : List (Addr × Obj)} {σ : St} {H2 H4 : Hp} {s2 s4 : Shared} {fp : List Addr} {it C D : Addr} {tn : Nat → Heap → Prop} {J : It} {R : Result → Shared → Prop} {QD : Hp → Prop} (I2 : Inv X pins σ H2 s2) (hc : X.calm = true)
    (f2 : ∀ b ∈ fp, FpOk X pins H2 b) (T : Turn X.prog X.w X.K tg J fp it tn)
    (hg : PG (cxComp X M scope C fp s2 H2) tg g) (ht : PTs (cxComp X M scope C fp s2 H2) ifs tt) (he : PE (cxComp X M scope C fp s2 H2) elt te)
    (I4 : Inv (cxComp X M scope C fp s2 H2) [] (capS ix σ) H4 s4) (st4 : tn 0 s4.heap) (fr4 : ∀ b ∈ fp, H4 b = none) (W : Nat → Nat → Hp → Prop) (m0 : Nat) (w0 : W 0 m0 H4)
    (turn : ∀ i m H, W i m H → (J.stop i H ∧ QD H) ∨ (J.go i H ∧ ∃ N : Hp → Prop, (∀ H', N H' → ∃ m', m' < m ∧ W (i + 1) m' H') ∧ ∀ x H', J.yld i H x H' → g x (capS ix σ) H' fun σ2 H2 => KeepS (capS ix σ) σ2 ∧ tt σ2 H2 fun b H3 =>
      if b = true then te σ2 H3 fun v H4 => ∃ ys, H4 D = some (.lst ys) ∧ ys.length < sizeLine ∧ N (upd H4 D (.lst (ys ++ [v]))) else N H3))
    (fin : ∀ H' s', Inv (cxComp X M scope C fp s2 H2) [] (capS ix σ) H' s' → QD H' → R (.ok .next) s') :
    codeAny (model X.prog X.w) X.A (.compLoop (.ListComp elt [⟨tg, iter, ifs, 0⟩] scope pos) 0 (.ref it) (.ref D) (compEnvC scope (clOf X.env.cells scope.names []) C X.env)) R s4 := by
  have stat : ∀ {H' : Hp}, (∀ b ∈ fp, H' b = none) → ∀ b ∈ fp, FpOk (cxComp X M scope C fp s2 H2) [] H' b := fun {H'} hn b hb =>
    ⟨hn b hb, (I4.ok.exf b hb).1, I4.ok.exfs b hb, .inl hb, (I4.ok.exf b hb).2, by intro p hp; cases hp⟩
  refine codeAny_loop rfl (fun n s' => ∃ i H', Inv (cxComp X M scope C fp s2 H2) [] (capS ix σ) H' s' ∧ tn i s'.heap ∧ (∀ b ∈ fp, H' b = none) ∧ W i n H') ?_ m0 ⟨0, H4, I4, st4, fr4, w0⟩
  rintro n s5 ⟨i, H5, I5, st5, fr5, w5⟩
  show wpAny (model X.prog X.w) X.A ((compTurn (.ListComp elt [⟨tg, iter, ifs, 0⟩] scope pos) 0 (.ref it) (.ref D) (compEnvC scope (clOf X.env.cells scope.names []) C X.env)).onRaise (fun x => do noteFrame x (compEnvC scope (clOf X.env.cells scope.names []) C X.env); theTreesLotGoes x)) _ _ s5
  refine wpAny_noted ?_
  rw [compTurn_list]
  refine wpAny_bind (wpAny_standAt (wpAny_bind ?_))
  rcases turn i n H5 w5 with ⟨stop, qn⟩ | ⟨go, N, hN, step⟩
  · refine thn (T.done (cxComp X M scope C fp s2 H2) rfl rfl rfl hc i [] s5 (capS ix σ) H5 _ I5 (stat fr5) st5 stop) fun r s6 ⟨hr, I6⟩ => ?_
    subst hr
    exact wpAny_pure (fin H5 s6 I6 qn)
  · refine thn (T.item (cxComp X M scope C fp s2 H2) rfl rfl rfl hc i [] s5 (capS ix σ) H5 _ I5 (stat fr5) st5 go) fun r s6 ⟨u, hr, h6⟩ => ?_
    subst hr
    refine wpAny_bind (thn h6 fun _ s7 ⟨x, H7, I7, r7, y7, st7, fr7⟩ => ?_)
    have I7' := I7.pinned (stat fr7) (T.obj _ _ st7)
    refine wpAny_bind (wpAny_mono (hg _ s7 (capS ix σ) H7 x u _ I7' r7 (step x H7 y7)) (fun _ s8 ⟨σ8, H8, I8, k8, q8⟩ => ?_) fun _ _ z => False.elim z)
    refine wpAny_bind (wpAny_mono (ht _ s8 σ8 H8 _ I8 q8) (fun ok s9 ⟨H9, I9, q9⟩ => ?_) fun _ _ z => False.elim z)
    have again : ∀ {Ha : Hp} {sa : Shared}, Inv (cxComp X M scope C fp s2 H2) ([] ++ pinsAt fp s7.heap) σ8 Ha sa → N Ha → ∃ m, m < n ∧ ∃ i H', Inv (cxComp X M scope C fp s2 H2) [] (capS ix σ) H' sa ∧ tn i sa.heap ∧ (∀ b ∈ fp, H' b = none) ∧ W i m H' := fun {Ha sa} Ia na => by
      obtain ⟨m', hm, wa⟩ := hN Ha na
      refine ⟨m', hm, i + 1, Ha, Ia.unpinned.weak k8.1.symm k8.2, T.keep _ _ _ st7 fun b hb o e => (Ia.pin (b, o) (List.mem_append_right _ (List.mem_append_right _ (mem_pinsAt hb e)))).1, fun b hb => ?_, wa⟩
      obtain ⟨o, e, d⟩ := T.obj _ _ st7 b hb
      exact (Ia.pin (b, o) (List.mem_append_right _ (List.mem_append_right _ (mem_pinsAt hb e)))).2.1
    cases ok with
    | false => exact wpAny_pure ⟨rfl, again I9 q9⟩
    | true =>
      refine wpAny_bind (wpAny_bind (wpAny_mono (he _ s9 σ8 H9 _ I9 q9) (fun xv s10 ⟨v, H10, I10, r10, ys, hD, hl, q10⟩ => ?_) fun _ _ z => False.elim z))
      refine wpAny_bind (wpAny_mono (mt_append (X := cxComp X M scope C fp s2 H2) _ s10 σ8 H10 (.ref D) [v] (.ref D) [xv] (fun _ H' => N H') I10 rfl (.cons r10 .nil) ⟨D, ys, v, rfl, rfl, hD, hl, q10⟩) (fun _ s11 ⟨_, H11, I11, _, q11⟩ => ?_) fun _ _ z => False.elim z)
      exact wpAny_pure (wpAny_pure ⟨rfl, again I11 q11⟩)

theorem comp_block {pins : List (Addr × Obj)} {σ : St} {H2 : Hp} {s2 : Shared} {fp : List Addr} {it : Addr} {tn : Nat → Heap → Prop} {J : It} {E : Value → Shared → Prop} {QD : Addr → Hp → Prop} {RR : Value → Addr → Result → Shared → Prop} (I2 : Inv X pins σ H2 s2) (hc : X.calm = true)
    (ck : CompOk X.N M ix scope X.env.scope) (f2 : ∀ b ∈ fp, FpOk X pins H2 b) (T : Turn X.prog X.w X.K tg J fp it tn) (st2 : tn 0 s2.heap)
    (hg : ∀ C fp s2 H2, PG (cxComp X M scope C fp s2 H2) tg g) (ht : ∀ C fp s2 H2, PTs (cxComp X M scope C fp s2 H2) ifs tt) (he : ∀ C fp s2 H2, PE (cxComp X M scope C fp s2 H2) elt te)
    (rd : ∀ D, H2 D = none → ∃ W : Nat → Nat → Hp → Prop, (∃ m, W 0 m (upd H2 D (.lst []))) ∧ ∀ i m H, W i m H →
      (J.stop i H ∧ QD D H) ∨ (J.go i H ∧ ∃ N : Hp → Prop, (∀ H', N H' → ∃ m', m' < m ∧ W (i + 1) m' H') ∧ ∀ x H', J.yld i H x H' → g x (capS ix σ) H' fun σ2 H2 => KeepS (capS ix σ) σ2 ∧ tt σ2 H2 fun b H3 =>
        if b = true then te σ2 H3 fun v H4 => ∃ ys, H4 D = some (.lst ys) ∧ ys.length < sizeLine ∧ N (upd H4 D (.lst (ys ++ [v]))) else N H3))
    (fin : ∀ D C H' s', QD D H' → (∃ m, s'.heap.Ns C m) → (∀ h2, Heap.SameBut C s'.heap h2 → Inv X pins σ H' { s' with heap := h2 }) → FpOk X pins H' C → RR (.ref D) C (.ok .next) s') :
    wpAny (model X.prog X.w) X.A (newList []) (fun acc s3 => wpAny (model X.prog X.w) X.A (newFunctionEnv scope X.env.globals (clOf X.env.cells scope.names []) [] X.env.qual none .none (some X.env)) (fun cenv s4 =>
      codeAny (model X.prog X.w) X.A (.compStart (.ListComp elt [⟨tg, iter, ifs, 0⟩] scope pos) 0 (.ref it) acc { cenv with scope := relabel scope X.env }) (RR acc cenv.locals) s4) E s3) E s2 := by
  have hfp : ∀ b ∈ fp, b < s2.heap.objs.size := fun b hb => by obtain ⟨o, e, _⟩ := T.obj 0 _ st2 b hb; exact Heap.lt_size e
  refine wpAny_newObj_type (wpAny_newFunctionEnv ck.nocell (by intro y hy; simp at hy) (fun h1 hn1 hsb1 => ?_) ck.kind)
  dsimp only at hn1 hsb1 ⊢
  generalize hP : s2.heap.push { cls := .type "list", dict := none, data := .seq ([] : List Value).toArray } = hh at hn1 hsb1 ⊢
  have hCz : hh.objs.size = s2.heap.objs.size + 1 := by rw [← hP, Heap.size_push]
  have hCD : hh.objs.size ≠ s2.heap.objs.size := by omega
  have old : ∀ b o, s2.heap.get? b = some o → h1.get? b = some o := fun b o e => by
    have hb : b < s2.heap.objs.size := Heap.lt_size e
    exact hsb1.extBut b o (Nat.ne_of_lt (by rw [hCz]; exact Nat.lt_succ_of_lt hb)) (Heap.get?_push_of_some _ (hP ▸ Heap.get?_push_of_some _ e))
  have hnew : h1.get? s2.heap.objs.size = some { cls := .type "list", data := .seq #[] } := hsb1.extBut _ _ hCD.symm (Heap.get?_push_of_some _ (hP ▸ Heap.get?_push_size _ rfl))
  obtain ⟨W, ⟨m0, w0⟩, turn⟩ := rd s2.heap.objs.size (I2.hok.fresh (Nat.le_refl _))
  have I4 := comp_inv (M := M) (ix := ix) (scope := scope) (fp := fp) (tk := s2.toks + ([] : List (Str × Value)).length) I2 ck (C := hh.objs.size) (D := s2.heap.objs.size) (by omega) (Nat.le_refl _) hCD f2 hfp old hn1 hnew
  have st4 : tn 0 h1 := T.keep _ _ _ st2 fun b _ o e => old b o e
  have fr4 : ∀ b ∈ fp, upd H2 s2.heap.objs.size (.lst []) b = none := fun b hb => by rw [upd_ne (Nat.ne_of_lt (hfp b hb))]; exact (f2 b hb).1
  have lp : codeAny (model X.prog X.w) X.A (.compLoop (.ListComp elt [⟨tg, iter, ifs, 0⟩] scope pos) 0 (.ref it) (.ref s2.heap.objs.size) (compEnvC scope (clOf X.env.cells scope.names []) hh.objs.size X.env)) (RR (.ref s2.heap.objs.size) hh.objs.size) { s2 with heap := h1, toks := s2.toks + ([] : List (Str × Value)).length } := by
    refine comp_loop (QD := QD s2.heap.objs.size) I2 hc f2 T (hg _ _ _ _) (ht _ _ _ _) (he _ _ _ _) I4 st4 fr4 W m0 w0 turn fun H' s' J' q' => ?_
    obtain ⟨m, hm, _⟩ := J'.loc
    exact fin _ _ H' s' q' ⟨m, hm⟩ (fun h2 sb => comp_back I2 J' f2 sb) (I2.fpOk (by omega) J'.free)
  exact codeAny_compStart_list lp (T.self _ 0 _ _ _ st4 lp)
theorem pe_comp (hc : X.calm = true) (ck : CompOk X.N M ix scope X.env.scope) (hi : PI X tg iter wi) (hg : ∀ C fp s2 H2, PG (cxComp X M scope C fp s2 H2) tg g) (ht : ∀ C fp s2 H2, PTs (cxComp X M scope C fp s2 H2) ifs tt) (he : ∀ C fp s2 H2, PE (cxComp X M scope C fp s2 H2) elt te)
    (hs : ∀ x, foldedSetIterable iter X.env x = pure x := by intro _; rfl) : PE X (.ListComp elt [⟨tg, iter, ifs, 0⟩] scope pos) (tComp wi ix g tt te) := by
  intro pins s σ H Q I h
  have hfree : ∀ x ∈ scope.names, x.2 = .free → ∃ c, X.env.cells.lookup x.1 = some c := fun x hx e => I.ok.has x.1 (ck.fr x hx e)
  rw [eval_ListComp]
  refine wpAny_comprehension_free (use := none) (cl := clOf X.env.cells scope.names []) rfl hs (closureFor_clOf hfree) ck.kind ck.loc (thn (hi pins s σ H _ I h) fun v s1 h1 => thn h1 fun itv s2 h2 => ?_)
  obtain ⟨it, fp, tn, J, H2, e, I2, T, st2, f2, rd⟩ := h2
  subst e
  refine comp_block (QD := fun D H' => Q (.ref D) H') I2 hc ck f2 T st2 hg ht he rd fun D C H' s' q hm hb _ => ?_
  obtain ⟨m, hm⟩ := hm
  exact ⟨m, hm, fun h2 sb => ⟨.ref D, H', hb h2 sb, rfl, q⟩⟩

/-- name = [..]: the name is stored ahead of the block's own variables' end -/
def tCompSet (wi : TI) (ix : List (Option Nat)) (g : TG) (tt : TT) (te : TE) (i : Nat) : TS := fun D σ H => tComp wi ix g tt te σ H fun x H1 => D.nx (σ.set i (some x)) H1
theorem ps_setC {i : Nat} {x : Str} {pos' spos : Pos} (hsw : swapsWith (.ListComp elt [⟨tg, iter, ifs, 0⟩] scope pos) (some (.Name x pos')) spos.line X.env = pure true) (hN : X.N.Nodup) (hix : X.N[i]? = some x) (hx : Loc X.env.scope x)
    (hc : X.calm = true) (ck : CompOk X.N M ix scope X.env.scope) (hi : PI X tg iter wi) (hg : ∀ C fp s2 H2, PG (cxComp X M scope C fp s2 H2) tg g) (ht : ∀ C fp s2 H2, PTs (cxComp X M scope C fp s2 H2) ifs tt) (he : ∀ C fp s2 H2, PE (cxComp X M scope C fp s2 H2) elt te)
    (hs : ∀ x, foldedSetIterable iter X.env x = pure x := by intro _; rfl) (hf : X.fn x = true ∨ X.env.scope.names.lookup x = some .local := by first | exact .inl rfl | exact .inr rfl | assumption) :
    PS X (.Assign [.Name x pos'] (.ListComp elt [⟨tg, iter, ifs, 0⟩] scope pos) spos) (tCompSet wi ix g tt te i) := by
  intro pins s σ H D0 I h
  have hfree : ∀ x ∈ scope.names, x.2 = .free → ∃ c, X.env.cells.lookup x.1 = some c := fun x hx e => I.ok.has x.1 (ck.fr x hx e)
  rw [exec_Assign_Name_used _ _ _ _ hsw]
  refine wpAny_bind (wpAny_standAt (wpAny_bind ?_))
  show wpAny _ X.A (do let _ ← comprehension (.ListComp elt [⟨tg, iter, ifs, 0⟩] scope pos) scope X.env _ (newList []) false (eval iter X.env) (some (assign (.Name x pos') X.env))) _ _ s
  refine wpAny_bind (wpAny_mono (wpAny_comprehension_free (use := some (assign (.Name x pos') X.env)) (Q := fun _ s' => SP X pins D0 .next s') (cl := clOf X.env.cells scope.names []) rfl hs (closureFor_clOf hfree) ck.kind ck.loc
    (thn (hi pins s σ H _ I h) fun v s1 h1 => thn h1 fun itv s2 h2 => ?_)) (fun _ s' hq => wpAny_pure (wpAny_pure hq)) fun _ _ e => e)
  obtain ⟨it, fp, tn, J, H2, e, I2, T, st2, f2, rd⟩ := h2
  subst e
  refine comp_block (QD := fun D H' => D0.nx (σ.set i (some (.ref D))) H') I2 hc ck f2 T st2 hg ht he rd fun D C H' s' q hm hb fpk => ?_
  obtain ⟨m, hm⟩ := hm
  obtain ⟨g0, g1, g2, g3, g4, g5⟩ := fpk
  have I5 : Inv X pins σ H' s' := hb s'.heap ⟨rfl, fun _ _ => rfl⟩
  show wpAny (model X.prog X.w) X.A (assign (.Name x pos') X.env (.ref D)) _ _ s'
  refine wpAny_assign_Name (store_ok2 (v := .ref D) I5 hN hix hx rfl (fun s6 I6 ⟨a, sb, ha⟩ => ?_) hf)
  have hCa : C ≠ a := by
    rcases ha with ha | ha
    · rw [ha]; exact g1
    · exact (g4 x a ha).symm
  refine ⟨m, hm.sameBut sb hCa, fun h2 sb2 => ⟨_, H', I6.turned (t' := s6.toks) (fun b o hb e => (sb2.2 b hb).trans e) g0 g1 g3 g4 g5, q⟩⟩
end
end L2
set_option Elab.async false
set_option linter.all false
set_option maxRecDepth 100000
namespace L2
open PySem PySem.Spec PyProof.Rows

/-- a def stands at the top by its name, and takes its arguments by place -/
def FnAt (K : PySem.W.Frag) (mg : Str → Option Value) (x : Str) (st : Stmt) (ps : List Str) : Prop := ∃ f fd, mg x = some (.ref f) ∧ Fun K x x st f fd ∧ Binds K fd ps []
/-- a def that keeps a promise -/
def Has (P : Program) (w : World) (K : PySem.W.Frag) (mg : Str → Option Value) (base : Heap) (k : Nat) (x : Str) (ps : List Str) (sp : Sp) : Prop :=
  ∃ f fd, mg x = some (.ref f) ∧ PySem.W.keepIn K (.ref f) = true ∧ Binds K fd ps [] ∧ FnOk P w K mg base CX0 k f fd ps sp
section
variable {P : Program} {w : World} {K : PySem.W.Frag} {mg : Str → Option Value} {base : Heap}
theorem Has.of {x : Str} {st : Stmt} {ps N : List Str} {k : Nat} {sp : Sp} (F : FnAt K mg x st ps) (S : FnScope N ps (defScope st)) (len : ∀ vs H Q E, sp vs H Q E → vs.length = ps.length)
    (hbody : ∀ (f : Addr) (cdv : Value) (A : Around) (outer : List Env) (s : Shared) (H : Hp) (vs : List V) (Q : VK) (E : XK), Room k (A.deeper (envOfC x (defScope st) s.heap.objs.size f cdv)) → sp vs H Q E →
      ∃ t, PSs (cxOf CX0 P w K mg base N x (defScope st) f cdv A outer s H E).nox (defBody st) t ∧ t { nx := fun _ H' => Q .non H', rt := Q } (start N vs) H) : Has P w K mg base (k + 1) x ps sp := by
  obtain ⟨f, fd, h1, h2, h3⟩ := F
  exact ⟨f, fd, h1, h2.kp, h3, h2.ok S len fun cdv A outer s H vs Q E hr h => hbody f cdv A outer s H vs Q E hr h⟩
end
section
variable {X : Cx}
theorem pe_callH {k m : Nat} {x : Str} {ps : List Str} {sp : Sp} {e : Expr} {es : List Expr} {t : TA} {p pos : Pos} (h : Has X.prog X.w X.K X.mg X.base k x ps sp) (hr : Room m X.A) (ha : PA X (e :: es) t) (hk : k ≤ m := by decide) (hg : Gl X x := by rfl)
    (hdb : (x == ("__debug__" : Str)) = false := by decide) (he : starEach (e :: es) X.env = (false, eval e X.env) :: starEach es X.env := by rfl) (hpl : (backTo pos (starEach es X.env)).any (·.1) = false := by rfl) :
    PE X (.Call (.Name x p) (e :: es) [] pos) (tCall sp [] E0 t) := by
  obtain ⟨f, fd, h1, h2, h3, h4⟩ := h
  exact pe_call h4 (hr.mono hk) hg h1 h2 h3 .nil pass0 ha hdb he hpl
end
def blNames : List Str := ["len", "abs", "max", "min", "repr", "isinstance", "int", "bool", "str", "tuple", "list", "dict", "range", "enumerate", "sorted", "sum"]
structure Bl (mg : Str → Option Value) : Prop where
  all : ∀ x ∈ blNames, mg x = none
theorem Bl.of {mg : Str → Option Value} (B : Bl mg) {x : Str} (h : blNames.contains x = true) : mg x = none := B.all x (by simpa using h)
/-- a constant tuple of the text -/
def GTup (K : PySem.W.Frag) (mg : Str → Option Value) (x : Str) (xs : List V) : Prop := ∃ a, mg x = some (.ref a) ∧ ∀ H, SqT K H a xs
theorem gtup_mk {K : PySem.W.Frag} {mg : Str → Option Value} {x : Str} {a : Addr} {xs : List V} {od : Option Addr} {its : Array Value} {n : Nat} {sl : Array (Option Value)} (h1 : mg x = some (.ref a)) (h2 : K.lookup a = some ⟨.type "tuple", od, .seq its n, sl⟩)
    (h3 : its.size ≤ sizeLine) (h4 : Vals xs its.toList) : GTup K mg x xs := ⟨a, h1, fun H => .inr ⟨_, its, n, h2, rfl, rfl, h3, h4⟩⟩
section
variable {X : Cx}
def tGT (K : PySem.W.Frag) (xs : List V) : TE := fun _ H Q => ∀ a, (∀ H', SqT K H' a xs) → Q (.ref a) H
theorem pe_gtup {x : Str} {xs : List V} {pos : Pos} (h : GTup X.K X.mg x xs) (hg : Gl X x := by rfl) (hd : (x == ("__debug__" : Str)) = false := by decide) : PE X (.Name x pos) (tGT X.K xs) := by
  obtain ⟨a, h1, h2⟩ := h
  exact fun pins s σ H Q I q => pe_glob (v := .ref a) hg h1 rfl hd pins s σ H Q I (q a h2)
/-- a constant int of the text -/
theorem pe_gint {x : Str} {i : Int} {pos : Pos} (h : ∃ t, X.mg x = some (.int i t)) (hg : Gl X x := by rfl) (hd : (x == ("__debug__" : Str)) = false := by decide) : PE X (.Name x pos) (tC (.int i)) := by
  obtain ⟨t, h1⟩ := h
  exact pe_glob (v := .int i) hg h1 ⟨t, rfl⟩ hd
/-- isinstance(x, T), T a built-in type -/
def rIsi (K : PySem.W.Frag) : List V → Hp → VK → Prop := fun xs H Q => ∃ x T t b, xs = [x, .ty T] ∧ TyOf K H x t ∧ PySem.W.kitOne K t (.type T) = some b ∧ Q (.bl b) H
theorem call_isi : CallR X (.builtin "isinstance") (rIsi X.K) := by
  intro pins s σ H xs us Q I r h
  obtain ⟨x, T, t, b, rfl, ht, hk, q⟩ := h
  cases r with
  | cons r rr =>
    cases rr with
    | cons r' rr =>
      cases rr
      cases r'
      exact isinst_ok I r ht hk fun tk => ⟨.bl b, H, I.tok _, rfl, q⟩
end
theorem Same.upd {H H1 : Hp} {p : Addr} {o : HO} (s : Same H H1) (h : H1 p = none) : Same H (upd H1 p o) := fun b u e => by
  have e1 := s b u e
  rw [upd_ne (ne_of_none e1 h)]; exact e1
/-- changed at an address that is new since H -/
theorem Same.at {H H1 : Hp} {p : Addr} {o : HO} (s : Same H H1) (h : H p = none) : Same H (L2.upd H1 p o) := fun b u e => by
  rw [upd_ne (ne_of_none e h)]; exact s b u e
end L2
set_option Elab.async false
set_option linter.all false
set_option maxRecDepth 100000
namespace L2
open PySem PySem.Spec PyProof.Rows
theorem sl_le {n : Nat} (h : n ≤ 100000) : n ≤ sizeLine := Nat.le_trans h (by decide)
theorem sl_lt {n : Nat} (h : n ≤ 100000) : n < sizeLine := Nat.lt_of_le_of_lt h (by decide)
theorem atI_lit {α : Type} {xs : List α} {i : Int} {v : α} (j : Nat) (h : xs[j]? = some v) (e : i = (j : Int) := by rfl) : atI xs i = some v := by
  rw [e]; exact atI_nat h
theorem atI_int {α : Type} {xs : List α} {i : Int} {v : α} (h0 : 0 ≤ i) (h : xs[i.toNat]? = some v) : atI xs i = some v := by
  have e : ((i.toNat : Nat) : Int) = i := Int.toNat_of_nonneg h0
  rw [← e]; exact atI_nat h

theorem comp_by {J : It} {n : Nat} {g : TG} {tt : TT} {te : TE} {ix : List (Option Nat)} {σ : St} {H : Hp} {QD : Hp → Prop} {D : Addr} (Pv : Nat → Hp → Prop) (h0 : Pv 0 (upd H D (.lst []))) (stop : ∀ H', Pv n H' → J.stop n H' ∧ QD H')
    (step : ∀ i H', i < n → Pv i H' → J.go i H' ∧ ∀ x H2, J.yld i H' x H2 → g x (capS ix σ) H2 fun σ2 H3 => KeepS (capS ix σ) σ2 ∧ tt σ2 H3 fun b H4 =>
      if b = true then te σ2 H4 fun v H5 => ∃ ys, H5 D = some (.lst ys) ∧ ys.length < sizeLine ∧ Pv (i + 1) (upd H5 D (.lst (ys ++ [v]))) else Pv (i + 1) H4) :
    ∃ W : Nat → Nat → Hp → Prop, (∃ m, W 0 m (upd H D (.lst []))) ∧ ∀ i m H, W i m H →
      (J.stop i H ∧ QD H) ∨ (J.go i H ∧ ∃ N : Hp → Prop, (∀ H', N H' → ∃ m', m' < m ∧ W (i + 1) m' H') ∧ ∀ x H', J.yld i H x H' → g x (capS ix σ) H' fun σ2 H2 => KeepS (capS ix σ) σ2 ∧ tt σ2 H2 fun b H3 =>
        if b = true then te σ2 H3 fun v H4 => ∃ ys, H4 D = some (.lst ys) ∧ ys.length < sizeLine ∧ N (upd H4 D (.lst (ys ++ [v]))) else N H3) := by
  refine ⟨fun i m H => m = n - i ∧ i ≤ n ∧ Pv i H, ⟨n, by simp, Nat.zero_le _, h0⟩, ?_⟩
  rintro i m H ⟨rfl, hi, p⟩
  by_cases hlt : i < n
  · obtain ⟨g1, g2⟩ := step i H hlt p
    exact .inr ⟨g1, Pv (i + 1), fun H' p' => ⟨n - (i + 1), by omega, rfl, hlt, p'⟩, g2⟩
  · have e : i = n := by omega
    subst e
    exact .inl (stop H p)
theorem cut_take {xs : List V} (k : Nat) : cutV xs none (some (k : Int)) = xs.take k := by
  unfold cutV
  rw [HT.sIx_none, HT.sIx_nat, List.drop_zero, Nat.sub_zero]
  by_cases h : k ≤ xs.length
  · rw [Nat.min_eq_left h]
  · rw [Nat.min_eq_right (by omega), List.take_length, List.take_of_length_le (by omega)]
theorem cut_drop {xs : List V} (k : Nat) : cutV xs (some (k : Int)) none = xs.drop k := by
  unfold cutV
  rw [HT.sIx_none, HT.sIx_nat]
  by_cases h : k ≤ xs.length
  · rw [Nat.min_eq_left h]
    exact List.take_of_length_le (by rw [List.length_drop]; exact Nat.le_refl _)
  · rw [Nat.min_eq_right (by omega), List.drop_eq_nil_of_le (show xs.length ≤ k by omega), List.drop_length]; simp

theorem yes {σ : St} {H : Hp} {A B : Hp → Prop} (h : A H) : tYes σ H fun b H' => if b = true then A H' else B H' := iteT (B := B H) h
section
variable {X : Cx} {K : PySem.W.Frag}
theorem ix_listK (h : X.K = K) : IxR X (rIxL K) := h ▸ ix_list
theorem sl_listK (h : X.K = K) : SlR X (rSlL K) := h ▸ sl_list
theorem op_notIn_seqK (h : X.K = K) : OpR X (compareOp .NotIn) (rIn K true) := h ▸ op_notIn_seq
theorem pg_tupK {es : List Expr} {k : Nat} {t : TGs} {n : Nat} {pos : Pos} (h : X.K = K) (hc : X.calm = true) (hh : PGs X es t)
    (hn : (assignEach es X.env).length = n := by rfl) (hst : (assignEach es X.env).findIdx? (·.1) = none := by rfl) : PG X (.Tuple es k pos) (gTup K n t) := by
  subst h; exact pg_tup hc hh hn hst
end

def rEqD : R2 := fun x y H Q => ∃ dx dy, At H x dx ∧ At H y dy ∧ dx.canLay0 = true ∧ dy.canLay0 = true ∧ dx.depth ≤ 60 ∧ Q (.bl (PyData.eqv dx dy)) H
def rNeD : R2 := fun x y H Q => ∃ dx dy, At H x dx ∧ At H y dy ∧ dx.canLay0 = true ∧ dy.canLay0 = true ∧ dx.depth ≤ 60 ∧ Q (.bl (!PyData.eqv dx dy)) H
section
variable {X : Cx}
theorem op_eqD {k : Nat} (hr : Room k X.A) : OpR X (compareOp .Eq) rEqD := by
  intro pins s σ H x y v u Q I rx ry h
  obtain ⟨dx, dy, h1, h2, c1, c2, hd, q⟩ := h
  obtain ⟨as, r1⟩ := h1.reads I.hok rx
  obtain ⟨bs, r2⟩ := h2.reads I.hok ry
  have hu := hr.units
  exact PySem.SeqAt.rcAt_reads r1 r2 c1 c2 (by have := Nat.min_le_left dx.depth dy.depth; omega) _ _ _ _ ⟨.bl _, H, I, rfl, q⟩
theorem op_neD {k : Nat} (hr : Room k X.A) : OpR X (compareOp .NotEq) rNeD := by
  intro pins s σ H x y v u Q I rx ry h
  obtain ⟨dx, dy, h1, h2, c1, c2, hd, q⟩ := h
  obtain ⟨as, r1⟩ := h1.reads I.hok rx
  obtain ⟨bs, r2⟩ := h2.reads I.hok ry
  have hu := hr.units
  exact PySem.SeqAt.rcNeAt_reads r1 r2 c1 c2 (by have := Nat.min_le_left dx.depth dy.depth; omega) _ _ _ _ ⟨.bl _, H, I, rfl, q⟩
end
theorem depthAll_le {n : Nat} : ∀ {xs : List PyData}, (∀ x ∈ xs, x.depth ≤ n) → PyData.depthAll xs ≤ n
  | [], _ => by simp [PyData.depthAll]
  | x :: xs, h => by
    have h1 := h x List.mem_cons_self
    have h2 := depthAll_le (xs := xs) fun y hy => h y (List.mem_cons_of_mem _ hy)
    simp only [PyData.depthAll]
    omega
theorem bulkAll_le {n : Nat} : ∀ {xs : List PyData}, (∀ x ∈ xs, x.bulk ≤ n) → PyData.bulkAll xs ≤ (n + 1) * xs.length
  | [], _ => by simp [PyData.bulkAll]
  | x :: xs, h => by
    have h1 := h x List.mem_cons_self
    have h2 := bulkAll_le (xs := xs) fun y hy => h y (List.mem_cons_of_mem _ hy)
    simp only [PyData.bulkAll, List.length_cons, Nat.mul_add]
    omega
theorem shortAll_of {B : Nat} : ∀ {xs : List PyData}, (∀ x ∈ xs, x.leavesShort B = true) → PyData.leavesShortAll B xs = true
  | [], _ => by simp [PyData.leavesShortAll]
  | x :: xs, h => by
    simp only [PyData.leavesShortAll, h x List.mem_cons_self, shortAll_of (xs := xs) fun y hy => h y (List.mem_cons_of_mem _ hy), Bool.and_self]
end L2
set_option Elab.async false
set_option linter.all false
set_option maxRecDepth 100000
set_option maxHeartbeats 2000000
namespace L2
open PySem PySem.Spec PyProof.Rows PySem.W
section
variable {prog : Program} {w : World} {A : Around} {E : Value → Shared → Prop} {h : Heap} {g : Array GenState} {d : Drawn} {t : Nat} {os : OsState} {K : PySem.W.Frag} {C fI : Addr}
end
end L2
set_option Elab.async false
set_option linter.all false
set_option maxRecDepth 100000
set_option maxHeartbeats 2000000
namespace L2
open PySem PySem.Spec PyProof.Rows PySem.W
section
variable {prog : Program} {w : World} {A : Around} {E : Value → Shared → Prop} {h : Heap} {g : Array GenState} {d : Drawn} {t : Nat} {os : OsState} {K : PySem.W.Frag} {C x : Addr} {mA : Str → Option Value} {name : Str} {v : Value}
end
end L2
set_option Elab.async false
set_option linter.all false
set_option maxRecDepth 100000
set_option maxHeartbeats 2000000
namespace L2
open PySem PySem.Spec PyProof.Rows PySem.W
section
variable {prog : Program} {w : World} {A : Around} {E : Value → Shared → Prop} {h : Heap} {g : Array GenState} {d : Drawn} {t : Nat} {os : OsState} {K : PySem.W.Frag} {C x : Addr} {mA : Str → Option Value} {name : Str} {v : Value}
end
end L2
set_option Elab.async false
set_option linter.all false
set_option maxRecDepth 100000
set_option maxHeartbeats 2000000
namespace L2
open PySem PySem.Spec PyProof.Rows PySem.W
section
variable {prog : Program} {w : World} {A : Around} {E : Value → Shared → Prop} {s : Shared} {K : PySem.W.Frag} {x C : Addr} {ox : Obj} {od : Option Obj}
end
end L2
set_option Elab.async false
set_option linter.all false
set_option maxRecDepth 100000
set_option maxHeartbeats 2000000
namespace L2
open PySem PySem.Spec PyProof.Rows PySem.W
section
variable {X : Cx} {pins : List (Addr × Obj)} {σ : St} {H : Hp} {s : Shared} {h' : Heap} {a d : Addr} {oA oD : HO}
end
end L2
set_option Elab.async false
set_option linter.all false
set_option maxRecDepth 100000
set_option maxHeartbeats 2000000
namespace L2
open PySem PySem.Spec PyProof.Rows PySem.W
section
variable {X : Cx} {pins : List (Addr × Obj)} {σ : St} {H : Hp} {s : Shared} {a C : Addr} {dx : Option Addr} {fs : List (Str × V)} {f : Str} {v : V} {u : Value}
variable {o e value : Expr} {pos pos' p : Pos} {ta tv : TE}
end
end L2
set_option Elab.async false
set_option linter.all false
set_option maxRecDepth 100000
set_option maxHeartbeats 2000000
namespace L2
open PySem PySem.Spec PyProof.Rows PySem.W
section
variable {X : Cx} {pins : List (Addr × Obj)} {σ : St} {H : Hp} {s : Shared} {h' : Heap} {a C : Addr} {oA : HO}
variable {x : Str} {e : Expr} {es : List Expr} {p pos : Pos} {t : TA}
variable {k : Nat} {f : Addr} {fd : FuncData} {ps : List Str} {sp : Sp}
end
end L2
set_option Elab.async false
set_option linter.all false
set_option maxRecDepth 100000
namespace L2
open PySem PySem.Spec PyProof.Rows
theorem Vals.bls : ∀ {bs : List Bool} {us : List Value}, Vals (bs.map V.bl) us → us = bs.map Value.bool
  | [], _, .nil => rfl
  | b :: bs, _, .cons r t => by
    have e := Vals.bls t
    cases r
    rw [e]
    rfl
section
variable {X : Cx}
end
end L2
set_option linter.all false
namespace Mx
open PySem L2 PyProof.Rows
section
variable {X : Cx} {es : List Expr} {te : TE} {t : TA} {pos : Pos}
theorem pa_cs {k : Const} {j} (ha : PE X (.Constant k j pos) te) (hr : PA X es t) : PA X (.Constant k j pos :: es) (tCons te t) := pa_cons ha hr rfl
theorem pa_nm {x : Str} (ha : PE X (.Name x pos) te) (hr : PA X es t) : PA X (.Name x pos :: es) (tCons te t) := pa_cons ha hr rfl
theorem pa_cl {f xs ks} (ha : PE X (.Call f xs ks pos) te) (hr : PA X es t) : PA X (.Call f xs ks pos :: es) (tCons te t) := pa_cons ha hr rfl
def strsOf : List Expr → Option (List Str)
  | [] => some []
  | .Constant (.str x) _ _ :: r => (strsOf r).map (x :: ·)
  | _ => none
theorem pa_strs {X : Cx} : ∀ {es : List Expr} {xs : List Str}, strsOf es = some xs → PA X es (fun _ H Q => Q (xs.map V.str) H)
  | [], xs, h => by
    cases h
    exact pa_nil
  | .Constant (.str x) j p :: r, xs, h => by
    rw [strsOf] at h
    obtain ⟨ys, hy, rfl⟩ := Option.map_eq_some_iff.mp h
    exact pa_cs pe_str (pa_strs hy)
def tStrs (xs : List Str) : TE := fun _ H Q => xs.length ≤ sizeLine ∧ ∀ p, H p = none → Q (.ref p) (upd H p (.lst (xs.map V.str)))
theorem pe_strs {xs : List Str} (h : strsOf es = some xs) : PE X (.List es pos) (tStrs xs) := by
  intro pins s σ H Q I hq
  refine pe_lst (pa_strs h) pins s σ H Q I ?_
  exact ⟨by rw [List.length_map]; exact hq.1, hq.2⟩
end
structure QS (X : Cx) (st : Stmt) (t : TS) : Prop where
  of : PS X st t
structure QSs (X : Cx) (ss : List Stmt) (t : TS) : Prop where
  of : PSs X ss t
section
variable {X : Cx} {st : Stmt} {rest a b : List Stmt} {t u : TS} {pos : Pos} {e : Expr} {te : TE}
theorem qss_nil : QSs X [] tNext := ⟨pss_nil⟩
theorem qss_one (h : QS X st t) : QSs X [st] t := ⟨pss_one h.of⟩
theorem qss_cons (h : QS X st t) (r : QSs X rest u) : QSs X (st :: rest) (tSeq t u) := ⟨pss_cons h.of r.of⟩
theorem qs_of (h : PS X st t) : QS X st t := ⟨h⟩
end
end Mx
set_option Elab.async false
set_option linter.all false
set_option maxRecDepth 100000
namespace L2
open PySem PySem.Spec PyProof.Rows PySem.Builtin PySem.Builtin.Str PySem.StrLaws
section
variable {X : Cx}
end
end L2
set_option Elab.async false
set_option linter.all false
set_option maxRecDepth 100000
namespace L2
open PySem PySem.Spec PyProof.Rows PyProof.Rows.KTD
def TabK (K : PySem.W.Frag) (a : Addr) (D : List (Str × List V)) : Prop :=
  (a == sysModules) = false ∧ ∃ o es ep, K.lookup a = some o ∧ o.ExactDict ∧ o.data = .dict es ep ∧ KTD.Rows (fun xs v => ∃ p, v = .ref p ∧ ∀ H, SqT K H p xs) es.toList D
section
variable {prog : Program} {w : World} {A : Around} {E : Value → Shared → Prop} {s : Shared} {a : Addr} {k : Str} {tk : Tok} {o : Obj} {es : Array DictEntry} {ep : Nat}
theorem dict_get_by {Q : Option Value → Shared → Prop} (g : s.heap.get? a = some o) (gd : o.data = .dict es ep) (ge : (es.toList.all fun e => isExactStrKey e.key) = true)
    (q : Q ((es.toList.find? fun e => e.key.isStr k).map (·.val)) { s with toks := s.toks + 1 }) : wpAny (model prog w) A (dictGet a (.str k tk)) Q E s := by
  obtain ⟨l⟩ := es
  have q2 : Q (findBy (fun k v => v.isStr k) ⟨l⟩ k) { s with toks := s.toks + 1 } := by
    rw [show findBy (fun k v => v.isStr k) (⟨l⟩ : Array DictEntry) k = (l.find? fun e => e.key.isStr k).map (·.val) by simp [findBy]]
    exact q
  unfold dictGet
  try with_reducible refine wpAny_holding ?_
  refine wpAny_bind (wpAny_pyHash_str ?_)
  refine wpAny_bind ?_
  refine kt_dictFind_strs (s := { s with toks := s.toks + 1 }) g gd (by simpa using ge) ?_
  rw [findBy_of_findIdx?] at q2
  revert q2
  cases (⟨l⟩ : Array DictEntry).findIdx? fun e => e.key.isStr k with
  | none => intro q2; exact wpAny_pure q2
  | some i => intro q2; refine wpAny_bind ?_; exact wpAny_dictEntries (s := { s with toks := s.toks + 1 }) g gd (wpAny_pure q2)
end
section
variable {X : Cx} {pins : List (Addr × Obj)} {σ : St} {H : Hp} {s : Shared} {a : Addr} {D : List (Str × List V)}
theorem TabK.dict (I : Inv X pins σ H s) (T : TabK X.K a D) : s.TypeIs (.ref a) "dict" ∧ ∀ b, Value.ref a = .ref b → ∃ ob, s.heap.get? b = some ob ∧ ob.dict = none := by
  obtain ⟨_, o, es, ep, hl, hx, hd, hr⟩ := T
  refine ⟨⟨o, I.kIn a o hl, hx.1⟩, fun b e => ?_⟩
  cases e
  exact ⟨o, I.kIn a o hl, hx.2.1⟩
theorem TabK.ask {k : Str} {tk : Tok} {E : Value → Shared → Prop} {A : Around} {Q : Option Value → Shared → Prop} (I : Inv X pins σ H s) (T : TabK X.K a D)
    (h1 : ∀ xs p, datumAt k D = some xs → (∀ H, SqT X.K H p xs) → Q (some (.ref p)) { s with toks := s.toks + 1 }) (h2 : datumAt k D = none → Q none { s with toks := s.toks + 1 }) : wpAny (model X.prog X.w) A (dictGet a (.str k tk)) Q E s := by
  obtain ⟨_, o, es, ep, hl, hx, hd, hr⟩ := T
  refine dict_get_by (I.kIn a o hl) hd hr.exact ?_
  cases hat : datumAt k D with
  | some xs =>
    obtain ⟨v, hv, p, rfl, hp⟩ := hr.find_some hat
    rw [hv]
    exact h1 xs p hat hp
  | none => rw [hr.find_none hat]; exact h2 hat
/-- d[x] -/
def rIxTab (K : PySem.W.Frag) (D : List (Str × List V)) : R2 := fun x y H Q => ∃ a k xs, x = .ref a ∧ y = .str k ∧ TabK K a D ∧ datumAt k D = some xs ∧ ∀ p, (∀ H, SqT K H p xs) → Q (.ref p) H
theorem ix_tab : IxR X (rIxTab X.K D) := by
  intro value slice pins s σ H x y v u Q I rx ry h hs
  obtain ⟨a, k, xs, rfl, rfl, T, hd, q⟩ := h
  cases rx
  obtain ⟨tk, rfl⟩ := ry
  obtain ⟨hsm, o, es, ep, hl, hx, hd2, hr⟩ := id T
  obtain ⟨v, hv, p, rfl, hp⟩ := hr.find_some hd
  have fin : EP X pins σ Q (.ref p) { s with toks := s.toks + 1 } := ⟨.ref p, H, I.tok _, rfl, q p hp⟩
  refine subscriptTail_builtinR (x := .ref p) (T.dict I).1 slot_dict_getitem.lookup ?_ hs
  unfold getItem
  try with_reducible refine wpAny_holding ?_
  refine wpAny_bind (wpAny_sequenceKey (T.dict I).1 (by decide) ?_)
  refine wpAny_bind (wpAny_callSpecial?_slot (name := Str.ofString "__getitem__") (T.dict I).1 slot_dict_getitem (wpAny_call_entry slot_dict_getitem (T.dict I).1 entry_dict_getitem ?_ (args_dict_getitem _ _)))
  show wpAny _ _ (dictGet a (.str k tk) >>= _) _ _ _
  refine wpAny_bind (dict_get_by (I.kIn a o hl) hd2 hr.exact ?_)
  rw [hv]
  exact wpAny_pure ⟨_, rfl, wpAny_pure ⟨rfl, fin⟩⟩
/-- x in d -/
def rInTab (K : PySem.W.Frag) (D : List (Str × List V)) : R2 := fun x y H Q => ∃ a k, x = .str k ∧ y = .ref a ∧ TabK K a D ∧ Q (.bl (inKeys k D)) H
theorem op_inTab : OpR X (compareOp .In) (rInTab X.K D) := by
  intro pins s σ H x y v u Q I rx ry h
  obtain ⟨a, k, rfl, rfl, T, q⟩ := h
  cases ry
  obtain ⟨tk, rfl⟩ := rx
  show wpAny _ _ (contains (.ref a) (.str k tk) >>= fun c => pure (Value.bool c)) _ _ s
  refine wpAny_bind ?_
  unfold contains
  try with_reducible refine wpAny_holding ?_
  refine wpAny_bind (wpAny_specialOf (T.dict I).1 slot_dict_contains.lookup ?_)
  show wpAny _ _ (if (some (Value.builtin "dict.__contains__") == some Value.none) = true then _ else _) _ _ s
  rw [if_neg (by rw [beq_builtin_none]; exact Bool.false_ne_true)]
  refine wpAny_bind (wpAny_callSpecialUnlessNone?_slot (name := Str.ofString "__contains__") (T.dict I).1 slot_dict_contains (wpAny_call_entry slot_dict_contains (T.dict I).1 entry_dict_contains ?_ (args_dict_contains _ _)))
  show wpAny _ _ (dictGet a (.str k tk) >>= _) _ _ _
  refine wpAny_bind (T.ask I (fun xs p hd hp => ?_) fun hn => ?_)
  · have e : inKeys k D = true := by rw [← isSome_datumAt, hd]; rfl
    rw [e] at q
    show wpAny _ _ (ret (.bool true)) _ _ _
    exact wpAny_pure ⟨_, rfl, wpAny_truthy_bool (wpAny_pure ⟨.bl true, H, I.tok _, rfl, q⟩)⟩
  · have e : inKeys k D = false := by rw [← isSome_datumAt, hn]; rfl
    rw [e] at q
    show wpAny _ _ (Builtin.Dict.pendingKey? a (.str k tk) >>= _) _ _ _
    exact wpAny_bind (wpAny_pendingKey_other T.1 (wpAny_pure ⟨_, rfl, wpAny_truthy_bool (wpAny_pure ⟨.bl false, H, I.tok _, rfl, q⟩)⟩))
end
end L2
set_option Elab.async false
set_option linter.all false
set_option maxRecDepth 100000
namespace L2
open PySem PySem.Spec PyProof.Rows
section
variable {X : Cx}
end
end L2
set_option Elab.async false
set_option linter.all false
set_option maxRecDepth 100000
namespace L2
open PySem PySem.Spec PyProof.Rows
open Builtin.SmallTypes (nextOf)
def SIt (h : Heap) (tp : Bool) (q l : Addr) (i : Nat) : Prop := if tp then IsTupIter h q l i else h.IsListIter q l i
def SOf (h : Heap) (tp : Bool) (l : Addr) (its : Array Value) : Prop := if tp then IsTup h l its else h.IsList l its
section
variable {prog : Program} {w : World} {A : Around} {E : Value → Shared → Prop} {s : Shared} {q l : Addr} {i : Nat} {its : Array Value}
theorem SIt.at {h h' : Heap} {tp : Bool} (x : SIt h tp q l i) (k : ∀ o, h.get? q = some o → h'.get? q = some o) : SIt h' tp q l i := by
  cases tp with
  | true => obtain ⟨o, g, r⟩ := x; exact ⟨o, k o g, r⟩
  | false => obtain ⟨o, g, r⟩ := x; exact ⟨o, k o g, r⟩
theorem SIt.obj {h : Heap} {tp : Bool} (x : SIt h tp q l i) : ∃ o, h.get? q = some o ∧ ∀ v, o.data ≠ .cell v := by
  cases tp with
  | true => obtain ⟨o, g, c, d⟩ := x; exact ⟨o, g, fun v z => by rw [d] at z; cases z⟩
  | false => obtain ⟨o, g, c, d⟩ := x; exact ⟨o, g, fun v z => by rw [d] at z; cases z⟩
theorem SOf.at {h h' : Heap} {tp : Bool} (x : SOf h tp l its) (k : ∀ o, h.get? l = some o → h'.get? l = some o) : SOf h' tp l its := by
  cases tp with
  | true => obtain ⟨o, g, r⟩ := x; exact ⟨o, k o g, r⟩
  | false => obtain ⟨o, g, r⟩ := x; exact ⟨o, k o g, r⟩
theorem nextOf_item {tp : Bool} {x : Value} {Q : Value → Shared → Prop} (hq : SIt s.heap tp q l i) (hl : SOf s.heap tp l its) (hx : its[i]? = some x)
    (k : ∀ h', SIt h' tp q l (i + 1) → Heap.SameBut q s.heap h' → Q x { s with heap := h' }) : wpAny (model prog w) A (nextOf (.ref q)) Q E s := by
  cases tp with
  | false => exact wpAny_nextOf_list_item hq hl hx k
  | true =>
    have hq' : IsTupIter s.heap q l i := hq
    obtain ⟨o, go, gc, gd⟩ := id hq'
    obtain ⟨ol, gl, _, nl, gdl⟩ := (show IsTup s.heap l its from hl)
    unfold Builtin.SmallTypes.nextOf
    refine wpAny_bind (wpAny_callSpecial?_slot (name := Str.ofString "__next__") hq'.typeIs slot_tupleiter_next (wpAny_call_entry slot_tupleiter_next hq'.typeIs entry_tupleiter_next ?_ (args_tupleiter_next _)))
    show wpAny _ _ (field (.ref q) 0 >>= _) _ _ s
    refine wpAny_bind (wpAny_field go gd (x := .ref l) rfl ?_)
    show wpAny _ _ (if (Value.ref l == Value.none) = true then _ else _) _ _ s
    rw [if_neg (by exact Bool.false_ne_true : ¬ ((Value.ref l == Value.none) = true))]
    show wpAny _ _ (field (.ref q) 1 >>= _) _ _ s
    refine wpAny_bind (wpAny_field go gd (x := .int i 0) rfl ?_)
    show wpAny _ _ (seqItems? (.ref l) >>= _) _ _ s
    refine wpAny_bind (wpAny_seqItems gl gdl ?_)
    simp only [Int.toNat_natCast, hx]
    refine wpAny_bind (wpAny_setField go gd (by simp) (wpAny_pure ⟨x, rfl, ?_⟩))
    refine wpAny_pure (k _ ?_ (Heap.SameBut.update ..))
    exact ⟨_, Heap.get?_update_self _ go (Obj.isFreed_of_fields (Obj.data_mapFields gd _)), (Obj.cls_mapFields ..).trans gc, by rw [Obj.data_mapFields gd]; simp [rawInt]⟩
theorem nextOf_end {tp : Bool} {Q : Value → Shared → Prop} (hh : A.handled = none) (hq : SIt s.heap tp q l i) (hl : SOf s.heap tp l its) (hx : its[i]? = none)
    (k : ∀ h' e, Heap.ExtBut q s.heap h' → (∃ o, h'.get? e = some o ∧ o.cls = .type "StopIteration") → E (.ref e) { s with heap := h' }) : wpAny (model prog w) A (nextOf (.ref q)) Q E s := by
  cases tp with
  | false => exact wpAny_nextOf_list_end hh hq hl hx k
  | true =>
    have hq' : IsTupIter s.heap q l i := hq
    obtain ⟨o, go, gc, gd⟩ := id hq'
    obtain ⟨ol, gl, _, nl, gdl⟩ := (show IsTup s.heap l its from hl)
    unfold Builtin.SmallTypes.nextOf
    refine wpAny_bind (wpAny_callSpecial?_slot (name := Str.ofString "__next__") hq'.typeIs slot_tupleiter_next (wpAny_call_entry slot_tupleiter_next hq'.typeIs entry_tupleiter_next ?_ (args_tupleiter_next _)))
    show wpAny _ _ (field (.ref q) 0 >>= _) _ _ s
    refine wpAny_bind (wpAny_field go gd (x := .ref l) rfl ?_)
    show wpAny _ _ (if (Value.ref l == Value.none) = true then _ else _) _ _ s
    rw [if_neg (by exact Bool.false_ne_true : ¬ ((Value.ref l == Value.none) = true))]
    show wpAny _ _ (field (.ref q) 1 >>= _) _ _ s
    refine wpAny_bind (wpAny_field go gd (x := .int i 0) rfl ?_)
    show wpAny _ _ (seqItems? (.ref l) >>= _) _ _ s
    refine wpAny_bind (wpAny_seqItems gl gdl ?_)
    simp only [Int.toNat_natCast, hx]
    refine wpAny_bind (wpAny_rule ?_)
    refine wpAny_bind (wpAny_setField go gd (by simp) ?_)
    show wpAny _ _ (newExc (.type "StopIteration") [] >>= _) _ _ _
    refine wpAny_bind ?_
    simp only [newExc, newTuple]
    refine wpAny_bind (wpAny_newObj_type ?_ (by size_fits))
    refine wpAny_bind (m := firstArgMember _ _) ?_
    refine wpAny_of_eq (a := Value.none) (by first | rfl | (simp only [firstArgMember]; rfl)) ?_
    refine wpAny_newObj_type ?_ (by size_fits)
    simp only [raiseNew]
    refine wpAny_bind (wpAny_handled ?_)
    first | rw [show A.in1.handled = none from hh] | rw [hh]
    refine wpAny_bind (wpAny_pure (wpAny_throw ?_))
    exact k _ _ (((Heap.SameBut.update ..).extBut.push _).push _) ⟨_, Heap.get?_push_size _ rfl, rfl⟩
theorem neN {a b : Nat} (h : a < b ∨ b < a) : a ≠ b := by omega
theorem zipNext {n l1 l2 k : Nat} {xs ys : Array Value} {x y a b : Value} {t1 t2 : Bool} {Q : Value → Shared → Prop} (b1 : l1 < n) (b2 : l2 < n) (gz : IsZip s.heap (n + 4) (n + 2) (n + 3) .none) (gi : IsPair s.heap (n + 2) (.ref n) (.ref (n + 1))) (go : IsPair s.heap (n + 3) a b)
    (q1 : SIt s.heap t1 n l1 k) (q2 : SIt s.heap t2 (n + 1) l2 k) (o1 : SOf s.heap t1 l1 xs) (o2 : SOf s.heap t2 l2 ys) (hx : xs[k]? = some x) (hy : ys[k]? = some y)
    (kk : ∀ h', IsZip h' (n + 4) (n + 2) (n + 3) (rawInt s.heap.objs.size) → IsPair h' (n + 3) x y → SIt h' t1 n l1 (k + 1) → SIt h' t2 (n + 1) l2 (k + 1) → IsPair h' s.heap.objs.size x y → h'.objs.size = s.heap.objs.size + 1 →
      (∀ c o, c ≠ n + 4 → c ≠ n + 3 → c ≠ n → c ≠ n + 1 → s.heap.get? c = some o → h'.get? c = some o) → Q (.ref s.heap.objs.size) { s with heap := h' }) :
    wpAny (model prog w) A (Builtin.«zip.__next__» ⟨[.ref (n + 4)], []⟩) (fun fin s' => ∃ v, fin = .done (.ret v) ∧ Q v s') E s := by
  show wpAny _ _ (field (.ref (n + 4)) 2 >>= _) _ _ _
  refine wpAny_bind (wpAny_field gz rfl (x := .bool false) rfl ?_)
  show wpAny _ _ (field (.ref (n + 4)) 3 >>= _) _ _ _
  refine wpAny_bind (wpAny_field gz rfl (x := .ref (n + 2)) rfl ?_)
  refine wpAny_bind (wpAny_seqItems gi rfl ?_)
  show wpAny _ _ (Builtin.SmallTypes.ownedTupleIsFree (.ref (n + 4)) >>= _) _ _ _
  refine wpAny_bind ?_
  unfold Builtin.SmallTypes.ownedTupleIsFree
  refine wpAny_bind (wpAny_field gz rfl (x := .none) rfl ?_)
  refine wpAny_pure ?_
  simp only [if_true]
  refine wpAny_bind (wpAny_rule ?_)
  refine wpAny_bind (wpAny_field gz rfl (x := .ref (n + 3)) rfl ?_)
  refine wpAny_bind (wpAny_setField_rec gz (by simp) fun m1 gz1 e1 => ?_)
  replace gz1 : IsZip m1 (n + 4) (n + 2) (n + 3) .ellipsis := gz1
  refine wpAny_bind ?_
  simp only [List.zipIdx_cons, List.zipIdx_nil, List.forIn_cons, List.forIn_nil]
  refine wpAny_bind (wpAny_bind ?_)
  refine wpAny_onRaise ?_
  show wpAny _ _ (nextOf (.ref n) >>= _) _ _ _
  refine wpAny_bind (nextOf_item (q1.at fun o g => e1.extBut _ _ (neN (by omega)) g) (o1.at fun o g => e1.extBut _ _ (neN (by omega)) g) hx fun m2 r1 e2 => ?_)
  refine wpAny_pure ?_
  have go2 : IsPair m2 (n + 3) a b := e2.extBut _ _ (neN (by omega)) (e1.extBut _ _ (neN (by omega)) go)
  refine wpAny_bind (wpAny_seqItems go2 rfl ?_)
  refine wpAny_bind (wpAny_updateSeq_pair go2 fun m3 go3 e3 => ?_)
  replace go3 : IsPair m3 (n + 3) x b := go3
  refine wpAny_bind (wpAny_letGo ?_)
  refine wpAny_pure ?_
  refine wpAny_bind (wpAny_bind ?_)
  refine wpAny_onRaise ?_
  show wpAny _ _ (nextOf (.ref (n + 1)) >>= _) _ _ _
  refine wpAny_bind (nextOf_item (q2.at fun o g => e3.extBut _ _ (neN (by omega)) (e2.extBut _ _ (neN (by omega)) (e1.extBut _ _ (neN (by omega)) g))) (o2.at fun o g => e3.extBut _ _ (neN (by omega)) (e2.extBut _ _ (neN (by omega)) (e1.extBut _ _ (neN (by omega)) g))) hy fun m4 r2 e4 => ?_)
  refine wpAny_pure ?_
  have go4 : IsPair m4 (n + 3) x b := e4.extBut _ _ (neN (by omega)) go3
  refine wpAny_bind (wpAny_seqItems go4 rfl ?_)
  refine wpAny_bind (wpAny_updateSeq_pair go4 fun m5 go5 e5 => ?_)
  replace go5 : IsPair m5 (n + 3) x y := go5
  refine wpAny_bind (wpAny_letGo ?_)
  refine wpAny_pure (wpAny_pure ?_)
  refine wpAny_bind (wpAny_seqItems go5 rfl ?_)
  refine wpAny_bind (wpAny_newTuple ?_)
  have hsz : m5.objs.size = s.heap.objs.size := by rw [e5.1, e4.1, e3.1, e2.1, e1.1]
  have gz5 : IsZip m5 (n + 4) (n + 2) (n + 3) .ellipsis := e5.extBut _ _ (neN (by omega)) (e4.extBut _ _ (neN (by omega)) (e3.extBut _ _ (neN (by omega)) (e2.extBut _ _ (neN (by omega)) gz1)))
  have keep5 : ∀ c o, c ≠ n + 4 → c ≠ n + 3 → c ≠ n → c ≠ n + 1 → s.heap.get? c = some o → m5.get? c = some o := fun c o d1 d2 d3 d4 g =>
    e5.extBut _ _ d2 (e4.extBut _ _ d4 (e3.extBut _ _ d2 (e2.extBut _ _ d3 (e1.extBut _ _ d1 g))))
  have r15 : SIt m5 t1 n l1 (k + 1) := r1.at fun o g => e5.extBut _ _ (neN (by omega)) (e4.extBut _ _ (neN (by omega)) (e3.extBut _ _ (neN (by omega)) g))
  have r25 : SIt m5 t2 (n + 1) l2 (k + 1) := r2.at fun o g => e5.extBut _ _ (neN (by omega)) g
  have lt5 : n + 4 < m5.objs.size := Heap.lt_size gz5
  show wpAny _ _ (Builtin.SmallTypes.ownedTupleHandOut (.ref (n + 4)) (.ref m5.objs.size) >>= _) _ _ _
  refine wpAny_bind ?_
  unfold Builtin.SmallTypes.ownedTupleHandOut
  have gz6 : IsZip (m5.push { cls := .type "tuple", data := .seq #[x, y] }) (n + 4) (n + 2) (n + 3) .ellipsis := Heap.get?_push_of_some _ gz5
  refine wpAny_bind (wpAny_setField_rec gz6 (by simp) fun m7 gz7 e7 => ?_)
  replace gz7 : IsZip m7 (n + 4) (n + 2) (n + 3) (rawInt m5.objs.size) := gz7
  refine wpAny_setField_rec gz7 (by simp) fun m8 gz8 e8 => ?_
  replace gz8 : IsZip m8 (n + 4) (n + 2) (n + 3) (rawInt m5.objs.size) := gz8
  have up : ∀ c o, c ≠ n + 4 → m5.get? c = some o → m8.get? c = some o := fun c o d1 g => e8.extBut _ _ d1 (e7.extBut _ _ d1 (Heap.get?_push_of_some _ g))
  have gt8 : IsPair m8 m5.objs.size x y := e8.extBut _ _ (Nat.ne_of_gt lt5) (e7.extBut _ _ (Nat.ne_of_gt lt5) (Heap.get?_push_size _ rfl))
  have hs8 : m8.objs.size = m5.objs.size + 1 := by rw [e8.1, e7.1, Heap.size_push]
  rw [hsz] at gz8 gt8 hs8
  refine wpAny_pure ⟨_, rfl, ?_⟩
  show Q (.ref m5.objs.size) _
  rw [hsz]
  exact kk m8 gz8 (up _ _ (neN (by omega)) go5) (r15.at fun o g => up _ o (neN (by omega)) g) (r25.at fun o g => up _ o (neN (by omega)) g) gt8 hs8 fun c o d1 d2 d3 d4 g => up c o d1 (keep5 c o d1 d2 d3 d4 g)
theorem zipDone {n l1 l2 k : Nat} {xs ys : Array Value} {a b : Value} {t1 t2 : Bool} {Q : Fin → Shared → Prop} (hh : A.handled = none) (b1 : l1 < n) (b2 : l2 < n) (gz : IsZip s.heap (n + 4) (n + 2) (n + 3) .none) (gi : IsPair s.heap (n + 2) (.ref n) (.ref (n + 1))) (go : IsPair s.heap (n + 3) a b)
    (q1 : SIt s.heap t1 n l1 k) (q2 : SIt s.heap t2 (n + 1) l2 k) (o1 : SOf s.heap t1 l1 xs) (o2 : SOf s.heap t2 l2 ys) (hend : xs[k]? = none ∨ ys[k]? = none)
    (kk : ∀ h' e, (∀ c o, c ≠ n + 4 → c ≠ n + 3 → c ≠ n → c ≠ n + 1 → s.heap.get? c = some o → h'.get? c = some o) → (∃ o, h'.get? e = some o ∧ o.cls = .type "StopIteration") → E (.ref e) { s with heap := h' }) :
    wpAny (model prog w) A (Builtin.«zip.__next__» ⟨[.ref (n + 4)], []⟩) Q E s := by
  show wpAny _ _ (field (.ref (n + 4)) 2 >>= _) _ _ _
  refine wpAny_bind (wpAny_field gz rfl (x := .bool false) rfl ?_)
  show wpAny _ _ (field (.ref (n + 4)) 3 >>= _) _ _ _
  refine wpAny_bind (wpAny_field gz rfl (x := .ref (n + 2)) rfl ?_)
  refine wpAny_bind (wpAny_seqItems gi rfl ?_)
  show wpAny _ _ (Builtin.SmallTypes.ownedTupleIsFree (.ref (n + 4)) >>= _) _ _ _
  refine wpAny_bind ?_
  unfold Builtin.SmallTypes.ownedTupleIsFree
  refine wpAny_bind (wpAny_field gz rfl (x := .none) rfl ?_)
  refine wpAny_pure ?_
  simp only [if_true]
  refine wpAny_bind (wpAny_rule ?_)
  refine wpAny_bind (wpAny_field gz rfl (x := .ref (n + 3)) rfl ?_)
  refine wpAny_bind (wpAny_setField_rec gz (by simp) fun m1 gz1 e1 => ?_)
  replace gz1 : IsZip m1 (n + 4) (n + 2) (n + 3) .ellipsis := gz1
  refine wpAny_bind ?_
  simp only [List.zipIdx_cons, List.zipIdx_nil, List.forIn_cons, List.forIn_nil]
  refine wpAny_bind (wpAny_bind ?_)
  refine wpAny_onRaise ?_
  show wpAny _ _ (nextOf (.ref n) >>= _) _ _ _
  have p1 : SIt m1 t1 n l1 k := q1.at fun o g => e1.extBut _ _ (neN (by omega)) g
  have p2 : SOf m1 t1 l1 xs := o1.at fun o g => e1.extBut _ _ (neN (by omega)) g
  cases hx : xs[k]? with
  | none =>
    refine wpAny_bind (nextOf_end hh p1 p2 hx fun m2 e g2 he => ?_)
    obtain ⟨oe, hoe, hce⟩ := he
    have gz2 : IsZip m2 (n + 4) (n + 2) (n + 3) .ellipsis := g2 _ _ (neN (by omega)) gz1
    have ne : e ≠ n + 4 := fun z => by subst z; rw [gz2] at hoe; cases hoe; simp at hce
    refine wpAny_setField_rec gz2 (by simp) fun m3 _ e3 => ?_
    exact kk m3 e (fun c o d1 _ d3 _ g => e3.extBut _ _ d1 (g2 _ _ d3 (e1.extBut _ _ d1 g))) ⟨oe, e3.extBut _ _ ne hoe, hce⟩
  | some x =>
    have hy : ys[k]? = none := by
      rcases hend with z | z
      · rw [hx] at z; cases z
      · exact z
    refine wpAny_bind (nextOf_item p1 p2 hx fun m2 r1 e2 => ?_)
    refine wpAny_pure ?_
    have go2 : IsPair m2 (n + 3) a b := e2.extBut _ _ (neN (by omega)) (e1.extBut _ _ (neN (by omega)) go)
    refine wpAny_bind (wpAny_seqItems go2 rfl ?_)
    refine wpAny_bind (wpAny_updateSeq_pair go2 fun m3 go3 e3 => ?_)
    refine wpAny_bind (wpAny_letGo ?_)
    refine wpAny_pure ?_
    refine wpAny_bind (wpAny_bind ?_)
    refine wpAny_onRaise ?_
    show wpAny _ _ (nextOf (.ref (n + 1)) >>= _) _ _ _
    refine wpAny_bind (nextOf_end hh (q2.at fun o g => e3.extBut _ _ (neN (by omega)) (e2.extBut _ _ (neN (by omega)) (e1.extBut _ _ (neN (by omega)) g))) (o2.at fun o g => e3.extBut _ _ (neN (by omega)) (e2.extBut _ _ (neN (by omega)) (e1.extBut _ _ (neN (by omega)) g))) hy fun m4 e g4 he => ?_)
    obtain ⟨oe, hoe, hce⟩ := he
    have gz4 : IsZip m4 (n + 4) (n + 2) (n + 3) .ellipsis := g4 _ _ (neN (by omega)) (e3.extBut _ _ (neN (by omega)) (e2.extBut _ _ (neN (by omega)) gz1))
    have ne : e ≠ n + 4 := fun z => by subst z; rw [gz4] at hoe; cases hoe; simp at hce
    refine wpAny_setField_rec gz4 (by simp) fun m5 _ e5 => ?_
    exact kk m5 e (fun c o d1 d2 d3 d4 g => e5.extBut _ _ d1 (g4 _ _ d4 (e3.extBut _ _ d2 (e2.extBut _ _ d3 (e1.extBut _ _ d1 g))))) ⟨oe, e5.extBut _ _ ne hoe, hce⟩
def itN (tp : Bool) : String := if tp then "tuple_iterator" else "list_iterator"
theorem iterS {tp : Bool} {Q : Value → Shared → Prop} (hl : SOf s.heap tp l its) (k : Q (.ref s.heap.objs.size) { s with heap := s.heap.push { cls := .type (itN tp), data := .fields #[.ref l, .int 0 0] } }) : wpAny (model prog w) A (pyIter (.ref l)) Q E s := by
  cases tp with
  | true => exact iter_tuple hl k
  | false => exact wpAny_pyIter_list hl k
theorem SIt.new {tp : Bool} {h : Heap} : SIt (h.push { cls := .type (itN tp), data := .fields #[.ref l, .int 0 0] }) tp h.objs.size l 0 := by
  cases tp with
  | true => exact ⟨_, Heap.get?_push_size _ rfl, rfl, rfl⟩
  | false => exact ⟨_, Heap.get?_push_size _ rfl, rfl, rfl⟩
abbrev zp1 (h : Heap) (t1 : Bool) (l1 : Addr) : Heap := h.push { cls := .type (itN t1), data := .fields #[.ref l1, .int 0 0] }
abbrev zp2 (h : Heap) (t1 t2 : Bool) (l1 l2 : Addr) : Heap := (zp1 h t1 l1).push { cls := .type (itN t2), data := .fields #[.ref l2, .int 0 0] }
abbrev zp3 (h : Heap) (t1 t2 : Bool) (l1 l2 : Addr) : Heap := (zp2 h t1 t2 l1 l2).push { cls := .type "tuple", data := .seq #[.ref h.objs.size, .ref (zp1 h t1 l1).objs.size] }
abbrev zp4 (h : Heap) (t1 t2 : Bool) (l1 l2 : Addr) : Heap := (zp3 h t1 t2 l1 l2).push { cls := .type "tuple", data := .seq #[.none, .none] }
abbrev zp5 (h : Heap) (t1 t2 : Bool) (l1 l2 : Addr) : Heap := (zp4 h t1 t2 l1 l2).push { cls := .type "zip", data := .fields #[.none, .bool false, .bool false, .ref (zp2 h t1 t2 l1 l2).objs.size, .ref (zp3 h t1 t2 l1 l2).objs.size] }
theorem zipNew (t1 t2 : Bool) (l1 l2 : Addr) (xs ys : Array Value) :
    Meets (Builtin.«zip.__new__» ⟨[.type "zip", .ref l1, .ref l2], []⟩) (fun _ R s => SOf s.heap t1 l1 xs ∧ SOf s.heap t2 l2 ys ∧ R (.ok (.ret (.ref (zp4 s.heap t1 t2 l1 l2).objs.size))) { s with heap := zp5 s.heap t1 t2 l1 l2 }) :=
  .of_wp fun prog w A R s h => by
    obtain ⟨hp, g, d, tk, os⟩ := s
    obtain ⟨y1, y2, h⟩ := h
    have hsub := sub_zip
    have Y1 : SOf (Shared.heap ⟨hp, g, d, tk, os⟩) t1 l1 xs := y1
    have Y2 : SOf (Shared.heap ⟨hp.push { cls := .type (itN t1), data := .fields #[.ref l1, .int 0 0] }, g, d, tk, os⟩) t2 l2 ys := y2.at fun o z => Heap.get?_push_of_some _ z
    wp_walk using iterS Y1, iterS Y2
    exact ⟨_, rfl, h⟩
end
end L2
set_option Elab.async false
set_option linter.all false
set_option maxRecDepth 100000
namespace L2
open PySem PySem.Spec PyProof.Rows
theorem boot_zipT : bootBuiltins "zip" = some (.type "zip") := by decide +kernel
section
variable {prog : Program} {w : World} {A : Around} {E : Value → Shared → Prop} {s : Shared}
def ZSt (h : Heap) (n : Nat) (t1 t2 : Bool) (l1 l2 : Addr) (i : Nat) : Prop :=
  ∃ a b, IsZip h (n + 4) (n + 2) (n + 3) .none ∧ IsPair h (n + 2) (.ref n) (.ref (n + 1)) ∧ IsPair h (n + 3) a b ∧ SIt h t1 n l1 i ∧ SIt h t2 (n + 1) l2 i
theorem call_zipS {t1 t2 : Bool} {l1 l2 : Addr} {xs ys : Array Value} {Q : Value → Shared → Prop} (y1 : SOf s.heap t1 l1 xs) (y2 : SOf s.heap t2 l2 ys)
    (k : ∀ h', ZSt h' s.heap.objs.size t1 t2 l1 l2 0 → (∀ c o, s.heap.get? c = some o → h'.get? c = some o) → Q (.ref (s.heap.objs.size + 4)) { s with heap := h' }) :
    wpAny (model prog w) A (call (.type "zip") [.ref l1, .ref l2]) Q E s := by
  refine callType_new F.called_zip (by decide) (F.typeCall_zip_2 _ _) (F.newCall_zip_2 _ _) (fun obj => F.args_object_init_3 obj _ _) F.entry_zip_new (zipNew t1 t2 l1 l2 xs ys) ⟨y1, y2, ?_⟩
  have z1 : (zp1 s.heap t1 l1).objs.size = s.heap.objs.size + 1 := Heap.size_push ..
  have z2 : (zp2 s.heap t1 t2 l1 l2).objs.size = s.heap.objs.size + 2 := by rw [Heap.size_push, z1]
  have z3 : (zp3 s.heap t1 t2 l1 l2).objs.size = s.heap.objs.size + 3 := by rw [Heap.size_push, z2]
  have z4 : (zp4 s.heap t1 t2 l1 l2).objs.size = s.heap.objs.size + 4 := by rw [Heap.size_push, z3]
  have u5 : ∀ c o, (zp4 s.heap t1 t2 l1 l2).get? c = some o → (zp5 s.heap t1 t2 l1 l2).get? c = some o := fun c o g => Heap.get?_push_of_some _ g
  have u4 : ∀ c o, (zp3 s.heap t1 t2 l1 l2).get? c = some o → (zp5 s.heap t1 t2 l1 l2).get? c = some o := fun c o g => u5 c o (Heap.get?_push_of_some _ g)
  have u3 : ∀ c o, (zp2 s.heap t1 t2 l1 l2).get? c = some o → (zp5 s.heap t1 t2 l1 l2).get? c = some o := fun c o g => u4 c o (Heap.get?_push_of_some _ g)
  have u2 : ∀ c o, (zp1 s.heap t1 l1).get? c = some o → (zp5 s.heap t1 t2 l1 l2).get? c = some o := fun c o g => u3 c o (Heap.get?_push_of_some _ g)
  have g5 : (zp5 s.heap t1 t2 l1 l2).get? (zp4 s.heap t1 t2 l1 l2).objs.size = some _ := Heap.get?_push_size _ rfl
  have g4 : (zp5 s.heap t1 t2 l1 l2).get? (zp3 s.heap t1 t2 l1 l2).objs.size = some _ := u5 _ _ (Heap.get?_push_size _ rfl)
  have g3 : (zp5 s.heap t1 t2 l1 l2).get? (zp2 s.heap t1 t2 l1 l2).objs.size = some _ := u4 _ _ (Heap.get?_push_size _ rfl)
  have i2 : SIt (zp5 s.heap t1 t2 l1 l2) t2 (zp1 s.heap t1 l1).objs.size l2 0 := SIt.new.at fun o g => u3 _ o g
  have i1 : SIt (zp5 s.heap t1 t2 l1 l2) t1 s.heap.objs.size l1 0 := SIt.new.at fun o g => u2 _ o g
  show _ ∧ _
  rw [z2, z3, z4] at g5
  rw [z1, z2] at g3
  rw [z3] at g4
  rw [z1] at i2
  rw [z4]
  exact ⟨⟨_, g5, rfl⟩, k _ ⟨_, _, g5, g3, g4, i1, i2⟩ fun c o g => u2 c o (Heap.get?_push_of_some _ g)⟩
end
def Sq (K : PySem.W.Frag) (tp : Bool) (H : Hp) (l : Addr) (xs : List V) : Prop := if tp then SqT K H l xs else SqL K H l xs
section
variable {X : Cx} {pins : List (Addr × Obj)} {σ : St} {H : Hp} {s : Shared}
theorem Inv.sq {tp : Bool} {l : Addr} {xs : List V} (I : Inv X pins σ H s) (h : Sq X.K tp H l xs) : ∃ its : List Value, Vals xs its ∧ SOf s.heap tp l its.toArray ∧ l < s.heap.objs.size := by
  cases tp with
  | true =>
    obtain ⟨its, r, pl, z⟩ := I.tuple h
    obtain ⟨o, g, _⟩ := id pl
    exact ⟨its, r, pl, Heap.lt_size g⟩
  | false =>
    obtain ⟨its, r, pl, z⟩ := I.list h
    obtain ⟨o, g, _⟩ := id pl.isList
    exact ⟨its, r, pl.isList, Heap.lt_size g⟩
theorem Inv.sq_inj {tp : Bool} {l : Addr} {xs ys : List V} (I : Inv X pins σ H s) (h : Sq X.K tp H l xs) (h' : Sq X.K tp H l ys) : xs = ys := by
  cases tp with
  | true => exact I.tuple_inj h h'
  | false => exact I.list_inj h h'
end
section
variable {X : Cx} {pins : List (Addr × Obj)} {σ : St} {H : Hp} {s : Shared} {h' : Heap}
/-- records that turned, nothing new -/
theorem Inv.turnedM {ch : List Addr} {t' : Nat} (I : Inv X pins σ H s) (k : ∀ b u, b ∉ ch → s.heap.get? b = some u → h'.get? b = some u) (hf : ∀ b ∈ ch, FpOk X pins H b) : Inv X pins σ H { s with heap := h', toks := t' } := by
  have nit : ∀ b u, H b = some u → b ∉ ch := fun b u e z => by rw [(hf b z).1] at e; cases e
  refine I.step (g' := s.gens) (d' := s.drawn) (ch := ch) (fun b hb => ?_) (fun b u _ _ hc e _ => k b u hc e) (fun b u _ _ hc e _ => ⟨u.slots, k b u hc e⟩) (fun b u _ e n => n)
    (fun b u hc e => ⟨u, k b u hc e⟩) (fun b xs e => e) (fun b u xs e => e) (fun b ps e => ⟨#[], by rw [e]; simp⟩) (fun m hm => ?_) (fun b u e => ?_) I.bare
  · obtain ⟨_, f1, _, f3, f4, f5⟩ := hf b hb
    exact ⟨f3, f1, f4, f5⟩
  · obtain ⟨ob, es, ep, ho, r⟩ := hm
    exact ⟨ob, es, ep, k _ ob (fun z => (hf _ z).2.1 rfl) ho, r⟩
  · refine (I.hok b u e).stay (fun c v hc q => k c v ?_ q) (fun c q => q) fun c xs q => q
    rcases hc with rfl | hc
    · exact nit _ u e
    · exact nit c _ hc
end
def Itz (K : PySem.W.Frag) (t1 t2 : Bool) (l1 l2 : Addr) : It :=
  ⟨fun i H => ∃ xs ys x y, Sq K t1 H l1 xs ∧ Sq K t2 H l2 ys ∧ xs[i]? = some x ∧ ys[i]? = some y,
   fun i H x H' => ∃ p u v, H p = none ∧ x = .ref p ∧ H' = upd H p (.tup [u, v]) ∧ ∀ xs ys, Sq K t1 H l1 xs → Sq K t2 H l2 ys → xs[i]? = some u ∧ ys[i]? = some v,
   fun i H => ∃ xs ys, Sq K t1 H l1 xs ∧ Sq K t2 H l2 ys ∧ (xs[i]? = none ∨ ys[i]? = none)⟩
theorem vals_none {xs : List V} {us : List Value} {i : Nat} (r : Vals xs us) (h : xs[i]? = none) : us[i]? = none := by
  rw [List.getElem?_eq_none_iff] at h ⊢
  rw [← r.length]
  exact h
theorem turn_zip {P : Program} {w : World} {K : PySem.W.Frag} {es : List Expr} {k : Nat} {tp : Pos} {t1 t2 : Bool} (l1 l2 n : Nat) (b1 : l1 < n) (b2 : l2 < n) :
    Turn P w K (.Tuple es k tp) (Itz K t1 t2 l1 l2) [n, n + 1, n + 2, n + 3, n + 4] (n + 4) (fun i h => ZSt h n t1 t2 l1 l2 i) where
  mem := by simp
  obj := fun i h st b hb => by
    obtain ⟨x, y, gz, gi, go, q1, q2⟩ := st
    have hb' : b = n ∨ b = n + 1 ∨ b = n + 2 ∨ b = n + 3 ∨ b = n + 4 := by simpa using hb
    rcases hb' with rfl | rfl | rfl | rfl | rfl
    · exact q1.obj
    · exact q2.obj
    · exact ⟨_, gi, fun v z => by
        have z' : Data.seq _ _ = Data.cell v := z
        cases z'⟩
    · exact ⟨_, go, fun v z => by
        have z' : Data.seq _ _ = Data.cell v := z
        cases z'⟩
    · exact ⟨_, gz, fun v z => by
        have z' : Data.fields _ = Data.cell v := z
        cases z'⟩
  keep := fun i h h' st kk => by
    obtain ⟨x, y, gz, gi, go, q1, q2⟩ := st
    exact ⟨x, y, kk _ (by simp) _ gz, kk _ (by simp) _ gi, kk _ (by simp) _ go, q1.at fun o z => kk _ (by simp) o z, q2.at fun o z => kk _ (by simp) o z⟩
  item := by
    intro X hP hw hK hc i pins s σ H E I hf st hg
    subst hP hw hK
    obtain ⟨xs, ys, x, y, hq1, hq2, hx, hy⟩ := hg
    obtain ⟨its1, rv1, so1, _⟩ := I.sq hq1
    obtain ⟨its2, rv2, so2, _⟩ := I.sq hq2
    obtain ⟨u1, hu1, ru1⟩ := rv1.get hx
    obtain ⟨u2, hu2, ru2⟩ := rv2.get hy
    obtain ⟨x0, y0, gz, gi, go, q1, q2⟩ := st
    have lt4 : n + 4 < s.heap.objs.size := Heap.lt_size gz
    have hT : s.TypeIs (.ref (n + 4)) "zip" := ⟨_, gz, rfl⟩
    unfold pyNext
    refine wpAny_bind (wpAny_attempt (wpAny_callSpecial?_slot (name := Str.ofString "__next__") hT F.slot_zip_next (wpAny_call_entry F.slot_zip_next hT F.entry_zip_next ?_ (F.args_zip_next_1 _))))
    refine zipNext b1 b2 gz gi go q1 q2 so1 so2 (x := u1) (y := u2) (by simpa using hu1) (by simpa using hu2) fun h' gz' go' r1 r2 hT' hsz kp => ?_
    refine wpAny_pure ?_
    refine ⟨_, rfl, wpAny_letOwnedTupleGo_zip gz' fun h2 gz2 hs2 => ?_⟩
    have kp2 : ∀ b ob, b ∉ [n, n + 1, n + 2, n + 3, n + 4] → s.heap.get? b = some ob → h2.get? b = some ob := fun b ob hb z => by
      have d4 : b ≠ n + 4 := fun q => hb (by simp [q])
      have d3 : b ≠ n + 3 := fun q => hb (by simp [q])
      have d0 : b ≠ n := fun q => hb (by simp [q])
      have d1 : b ≠ n + 1 := fun q => hb (by simp [q])
      exact (hs2.2 b d4).trans (kp b ob d4 d3 d0 d1 z)
    have up2 : ∀ b ob, b ≠ n + 4 → h'.get? b = some ob → h2.get? b = some ob := fun b ob d z => (hs2.2 b d).trans z
    have hT2 : h2.get? s.heap.objs.size = some { cls := .type "tuple", data := .seq #[u1, u2] } := up2 _ _ (Nat.ne_of_gt lt4) hT'
    have fresh : H s.heap.objs.size = none := I.hok.fresh (Nat.le_refl _)
    have new : ObjOk X.prog X.w (upd H s.heap.objs.size (.tup [x, y])) h2 s.heap.objs.size (.tup [x, y]) := ⟨by show 2 ≤ sizeLine; decide, [u1, u2], .cons ru1 (.cons ru2 .nil), ⟨_, hT2, rfl, _, rfl⟩⟩
    refine ⟨.ref s.heap.objs.size, upd H s.heap.objs.size (.tup [x, y]), I.turnedL kp2 hf (Nat.le_refl _) new, rfl, ⟨_, x, y, fresh, rfl, rfl, fun as bs ha hb => by rw [I.sq_inj ha hq1, I.sq_inj hb hq2]; exact ⟨hx, hy⟩⟩, ⟨_, _, gz2, ?_, up2 _ _ (neN (by omega)) go', r1.at fun o z => up2 _ o (neN (by omega)) z, r2.at fun o z => up2 _ o (neN (by omega)) z⟩, fun b hb => ?_⟩
    · exact up2 _ _ (neN (by omega)) (kp _ _ (neN (by omega)) (neN (by omega)) (neN (by omega)) (neN (by omega)) gi)
    · rw [upd_ne]
      · exact (hf b hb).1
      · have hb' : b = n ∨ b = n + 1 ∨ b = n + 2 ∨ b = n + 3 ∨ b = n + 4 := by simpa using hb
        rcases hb' with rfl | rfl | rfl | rfl | rfl <;> exact neN (by omega)
  done := by
    intro X hP hw hK hc i pins s σ H E I hf st hg
    subst hP hw hK
    obtain ⟨xs, ys, hq1, hq2, hxy⟩ := hg
    obtain ⟨its1, rv1, so1, _⟩ := I.sq hq1
    obtain ⟨its2, rv2, so2, _⟩ := I.sq hq2
    obtain ⟨x0, y0, gz, gi, go, q1, q2⟩ := st
    have hT : s.TypeIs (.ref (n + 4)) "zip" := ⟨_, gz, rfl⟩
    have hend : its1.toArray[i]? = none ∨ its2.toArray[i]? = none := hxy.imp (fun z => by simpa using vals_none rv1 z) fun z => by simpa using vals_none rv2 z
    unfold pyNext
    refine wpAny_bind (wpAny_attempt (wpAny_callSpecial?_slot (name := Str.ofString "__next__") hT F.slot_zip_next (wpAny_call_entry F.slot_zip_next hT F.entry_zip_next (zipDone (I.ok.hd hc) b1 b2 gz gi go q1 q2 so1 so2 hend fun h' e kp he => ?_) (F.args_zip_next_1 _))))
    obtain ⟨o, ho, hce⟩ := he
    refine wpAny_bind (wpAny_isInstance (T := "StopIteration") (b := true) ⟨o, ho, hce⟩ isSubtype_stop ?_)
    refine wpAny_pure ⟨rfl, ?_⟩
    refine I.turnedM (t' := s.toks) (ch := [n, n + 1, n + 2, n + 3, n + 4]) (fun b ob hb z => ?_) hf
    exact kp b ob (fun q => hb (by simp [q])) (fun q => hb (by simp [q])) (fun q => hb (by simp [q])) (fun q => hb (by simp [q])) z
  self := fun _ _ _ _ _ st h => by
    obtain ⟨x0, y0, gz, gi, go, q1, q2⟩ := st
    exact wpAny_pyIter_zip gz h
/-- for .. in zip(a, b), the tuple into names -/
def iZip (K : PySem.W.Frag) (ta : TA) : TI := fun σ H R => ta σ H fun vs H1 => ∃ t1 t2 l1 l2 xs ys, vs = [.ref l1, .ref l2] ∧ Sq K t1 H1 l1 xs ∧ Sq K t2 H1 l2 ys ∧ R (Itz K t1 t2 l1 l2) H1
section
variable {X : Cx}
theorem pi_zip {a b : Expr} {ta : TA} {p pos tp : Pos} {es : List Expr} {k : Nat} (hg : Gl X "zip") (hm : X.mg "zip" = none) (ha : PA X [a, b] ta) (hs : starEach [a, b] X.env = (false, eval a X.env) :: starEach [b] X.env := by rfl) (hp : (backTo pos (starEach [b] X.env)).any (·.1) = false := by rfl) :
    PI X (.Tuple es k tp) (.Call (.Name "zip" p) [a, b] [] pos) (iZip X.K ta) := by
  intro pins s σ H R I h
  refine Call_ (ld_blt I hg hm boot_zipT (PyProof.Rows.callWith_type1 (thn (ha pos pins s σ H _ I h) fun us s1 ⟨vs, H1, I1, r1, q1⟩ => ?_) hs hp))
  obtain ⟨t1, t2, l1, l2, xs, ys, e, hq1, hq2, q⟩ := q1
  subst e
  cases r1 with
  | cons r rr =>
    cases rr with
    | cons r2 rr =>
      cases rr
      cases r
      cases r2
      obtain ⟨its1, rv1, so1, b1⟩ := I1.sq hq1
      obtain ⟨its2, rv2, so2, b2⟩ := I1.sq hq2
      refine call_zipS so1 so2 fun h' st kp => ?_
      obtain ⟨x0, y0, gz, gi, go, i1, i2⟩ := id st
      refine wpAny_pyIter_zip gz ⟨_, [s1.heap.objs.size, s1.heap.objs.size + 1, s1.heap.objs.size + 2, s1.heap.objs.size + 3, s1.heap.objs.size + 4], _, Itz X.K t1 t2 l1 l2, H1, rfl, I1.kept (t' := s1.toks) kp, turn_zip l1 l2 s1.heap.objs.size b1 b2, st, fun b hb => ?_, q⟩
      have hb' : s1.heap.objs.size ≤ b := by
        have hb' : b = s1.heap.objs.size ∨ b = s1.heap.objs.size + 1 ∨ b = s1.heap.objs.size + 2 ∨ b = s1.heap.objs.size + 3 ∨ b = s1.heap.objs.size + 4 := by simpa using hb
        rcases hb' with rfl | rfl | rfl | rfl | rfl
        · exact Nat.le_refl _
        · exact Nat.le_add_right ..
        · exact Nat.le_add_right ..
        · exact Nat.le_add_right ..
        · exact Nat.le_add_right ..
      exact I1.fpOk hb' (I1.hok.fresh hb')
end
theorem for_zip {K : PySem.W.Frag} {t1 t2 : Bool} {l1 l2 : Addr} {xs ys : List V} {g : TG} {tb : TS} {D : Ends} {σ : St} {H : Hp} (hlen : xs.length = ys.length) (Pv : Nat → St → Hp → Prop) (h0 : Pv 0 σ H) (hl : ∀ i σ H, i ≤ xs.length → Pv i σ H → Sq K t1 H l1 xs ∧ Sq K t2 H l2 ys)
    (hs : ∀ i x y p σ H, xs[i]? = some x → ys[i]? = some y → Pv i σ H → H p = none → g (.ref p) σ (upd H p (.tup [x, y])) fun σ2 H2 => tb { D with nx := Pv (i + 1), ct := Pv (i + 1), bk := D.nx } σ2 H2) (hd : ∀ σ H, Pv xs.length σ H → D.nx σ H) :
    ∃ W : Nat → Nat → St → Hp → Prop, (∃ m, W 0 m σ H) ∧ ∀ i m σ H, W i m σ H →
      ((Itz K t1 t2 l1 l2).stop i H ∧ D.nx σ H) ∨ ((Itz K t1 t2 l1 l2).go i H ∧ ∃ N : St → Hp → Prop, (∀ σ' H', N σ' H' → ∃ m', m' < m ∧ W (i + 1) m' σ' H') ∧ ∀ x H', (Itz K t1 t2 l1 l2).yld i H x H' → g x σ H' fun σ2 H2 => tb { D with nx := N, ct := N, bk := D.nx } σ2 H2) := by
  refine ⟨fun i m σ H => m = xs.length - i ∧ i ≤ xs.length ∧ Pv i σ H, ⟨xs.length, by simp, Nat.zero_le _, h0⟩, ?_⟩
  rintro i m σ H ⟨rfl, hi, p⟩
  obtain ⟨q1, q2⟩ := hl i σ H hi p
  by_cases hlt : i < xs.length
  · refine .inr ⟨⟨xs, ys, _, _, q1, q2, List.getElem?_eq_getElem hlt, List.getElem?_eq_getElem (by omega)⟩, Pv (i + 1), fun σ' H' p' => ⟨xs.length - (i + 1), by omega, rfl, hlt, p'⟩, ?_⟩
    rintro x H' ⟨pp, u, v, hp, rfl, rfl, hu⟩
    obtain ⟨h1, h2⟩ := hu xs ys q1 q2
    exact hs i u v pp σ H h1 h2 p hp
  · have e : i = xs.length := by omega
    subst e
    exact .inl ⟨⟨xs, ys, q1, q2, .inl (by simp)⟩, hd σ H p⟩
end L2
set_option Elab.async false
set_option linter.all false
set_option maxRecDepth 100000
namespace L2
open PySem PySem.Spec PyProof.Rows
theorem boot_sortedF : bootBuiltins "sorted" = some (.builtin "sorted") := by decide +kernel
theorem ints_vals : ∀ {us : List Value} {ns : List Int}, IntsAre us ns → Vals (ns.map V.int) us
  | _, _, .nil => .nil
  | _, _, .cons n t r => .cons ⟨t, rfl⟩ (ints_vals r)
section
variable {X : Cx}
/-- sorted(x) of a list of ints, of a list of texts -/
def rSortI : List V → Hp → VK → Prop := fun xs H Q => ∃ (l : Addr) (ns : List Int), xs = [.ref l] ∧ H l = some (.lst (ns.map V.int)) ∧ ns.length < 64 ∧ ∀ (p : Addr) (ns' : List Int), H p = none → ns'.Perm ns → ns'.Pairwise (· ≤ ·) → Q (.ref p) (upd H p (.lst (ns'.map V.int)))
theorem call_sortedI : CallR X (.builtin "sorted") rSortI := by
  intro pins s σ H xs us Q I r h
  obtain ⟨l, ns, rfl, hH, h64, q⟩ := h
  cases r with
  | cons r rr =>
    cases rr
    cases r
    obtain ⟨z, its, n, rv, hl, e⟩ := I.lstM hH
    have hil : its.length = ns.length := by rw [← hl, List.length_map]
    refine sorted_ints (vs := its) ⟨_, e, rfl, n, rfl⟩ (intsAre_of rv) (by omega) fun out ns' a1 a2 a3 => ?_
    obtain ⟨ep, he⟩ := sortedAll_at s.heap its out
    have hf : H (s.heap.objs.size + 1) = none := I.hok.fresh (Nat.le_succ _)
    refine ⟨.ref (s.heap.objs.size + 1), _, I.laid (o := .lst (ns'.map V.int)) (t' := s.toks) (fun b u g => sortedAll_old g) (Nat.le_succ _) ?_, rfl, q _ ns' hf a2 a3⟩
    exact ⟨by rw [List.length_map, a2.length_eq]; omega, out.toList, ep, ints_vals a1, by simpa using he⟩
end
end L2
set_option Elab.async false
set_option linter.all false
set_option maxRecDepth 100000
namespace L2
open PySem PySem.Spec PyProof.Rows
theorem boot_allF : bootBuiltins "all" = some (.builtin "all") := by decide +kernel
section
variable {X : Cx}
/-- all(x), any(x) of a list of truths -/
def rAllB : List V → Hp → VK → Prop := fun xs H Q => ∃ (l : Addr) (bs : List Bool), xs = [.ref l] ∧ H l = some (.lst (bs.map V.bl)) ∧ Q (.bl (bs.all id)) H
theorem range_all (bs : List Bool) : (List.range bs.length).all (fun i => bs.getD i false) = bs.all id := by
  rw [Bool.eq_iff_iff, List.all_eq_true, List.all_eq_true]
  constructor
  · intro h b hb
    obtain ⟨i, hi, e⟩ := List.getElem_of_mem hb
    have := h i (List.mem_range.mpr hi)
    rw [List.getD_eq_getElem?_getD, List.getElem?_eq_getElem hi] at this
    rw [← e]; exact this
  · intro h i hi
    have hi' := List.mem_range.mp hi
    rw [List.getD_eq_getElem?_getD, List.getElem?_eq_getElem hi']
    exact h _ (List.getElem_mem hi')
theorem truth_bs {P : Program} {w : World} {A : Around} (bs : List Bool) : TruthOf P w A (fun i v => (bs.map Value.bool).toArray[i]? = some v) (fun i => bs.getD i false) := by
  intro i v s Q E hP hQ
  have hP' : (bs.map Value.bool)[i]? = some v := by simpa using hP
  rw [List.getElem?_map] at hP'
  cases e : bs[i]? with
  | none => rw [e] at hP'; cases hP'
  | some b =>
    rw [e] at hP'
    cases hP'
    have hQ' : Q (bs.getD i false) s := hQ
    rw [List.getD_eq_getElem?_getD, e] at hQ'
    exact wpAny_truthy_bool hQ'
theorem call_allB (hc : X.calm = true) : CallR X (.builtin "all") rAllB := by
  intro pins s σ H xs us Q I r h
  obtain ⟨l, bs, rfl, hH, q⟩ := h
  cases r with
  | cons r rr =>
    cases rr
    cases r
    obtain ⟨z, its, n, rv, hl, e⟩ := I.lstM hH
    have hi := rv.bls
    subst hi
    have hlt : l < s.heap.objs.size := Heap.lt_size e
    refine call_all_walk (wpAny_pyIter_list (items := (bs.map Value.bool).toArray) ⟨_, e, rfl, n, rfl⟩ ⟨_, _, _, _, _, _, _, rfl, Walks.list (by simpa using I.ok.hd hc) s.heap.objs.size l (Nat.ne_of_lt hlt) (bs.map Value.bool).toArray, ⟨⟨_, Heap.get?_push_size _ rfl, rfl, rfl⟩, ⟨_, Heap.get?_push_of_some _ e, rfl, n, rfl⟩⟩, truth_bs bs, fun h' tk hk => ?_⟩)
    rw [List.size_toArray, List.length_map, range_all]
    refine ⟨.bl (bs.all id), H, I.kept fun b o g => hk b o ?_ (Heap.get?_push_of_some _ g), rfl, q⟩
    intro hb
    rw [List.mem_singleton] at hb
    exact absurd (Heap.lt_size g) (by rw [hb]; exact Nat.lt_irrefl _)
end
end L2
set_option Elab.async false
set_option linter.all false
set_option maxRecDepth 100000
namespace L2
open PySem PySem.Spec PyProof.Rows
section
variable {X : Cx} {a b : Expr} {ta tb : TE} {pos : Pos}
/-- a list put behind another one; both may be read only -/
def rCatS (K : PySem.W.Frag) : R2 := fun x y H Q => ∃ l b xs zs, x = .ref l ∧ y = .ref b ∧ SqL K H l xs ∧ SqL K H b zs ∧ xs.length + zs.length ≤ sizeLine ∧ ∀ p, H p = none → Q (.ref p) (upd H p (.lst (xs ++ zs)))
theorem op_catS : OpR X (binaryOp .Add) (rCatS X.K) := by
  intro pins s σ H x y v u Q I rx ry h
  obtain ⟨l, b, xs, zs, rfl, rfl, hH, hB, hz, q⟩ := h
  cases rx
  cases ry
  obtain ⟨vs, r, pl, _⟩ := I.list hH
  obtain ⟨ws, r2, pl2, _⟩ := I.list hB
  obtain ⟨⟨cls, dd, data, sl⟩, ho, hc, n, hd⟩ := pl.isList
  obtain ⟨⟨cls2, dd2, data2, sl2⟩, ho2, hc2, n2, hd2⟩ := pl2.isList
  simp only at hc hd hc2 hd2
  subst hc hd hc2 hd2
  have l1 := r.length
  have l2 := r2.length
  refine concat_meets ⟨_, ho, rfl⟩ ⟨_, ho2, rfl⟩ noFill_list_add seq_list_add PySem.F.slot_list_add PySem.F.entry_list_add (PySem.F.args_list_add_2 _ _) (list_addW l b vs.toArray ws.toArray n n2 dd dd2 sl sl2 (by simp; omega)) ⟨ho, ho2, ?_⟩
  have ea : vs.toArray ++ ws.toArray = (vs ++ ws).toArray := by simp
  rw [ea]
  exact ⟨.ref _, _, I.lnew (t' := s.toks) (r.append r2) (by rw [List.length_append]; omega), rfl, q _ I.fresh⟩
end
end L2
set_option Elab.async false
set_option linter.all false
set_option maxRecDepth 100000
namespace L2
open PySem PySem.Spec PyProof.Rows
section
variable {κ : Type} [DecidableEq κ]
def valV (kvs : List (κ × V)) (k : κ) : Option V := (kvs.find? fun kv => decide (kv.1 = k)).map (·.2)
/-- in its place, or at the end -/
def putK (kvs : List (κ × V)) (k : κ) (v : V) : List (κ × V) :=
  if (kvs.any fun kv => decide (kv.1 = k)) = true then kvs.map (fun kv => if kv.1 = k then (kv.1, v) else kv) else kvs ++ [(k, v)]
theorem valV_pos {p : κ × V} {r : List (κ × V)} {k : κ} (e : p.1 = k) : valV (p :: r) k = some p.2 := by simp [valV, List.find?_cons, e]
theorem valV_neg {p : κ × V} {r : List (κ × V)} {k : κ} (e : ¬ p.1 = k) : valV (p :: r) k = valV r k := by simp [valV, List.find?_cons, e]
theorem valV_any (k : κ) : ∀ kvs : List (κ × V), (kvs.any fun kv => decide (kv.1 = k)) = (valV kvs k).isSome
  | [] => rfl
  | p :: r => by
    rw [List.any_cons]
    by_cases e : p.1 = k
    · simp only [valV_pos e, decide_eq_true e, Bool.true_or, Option.isSome_some]
    · rw [valV_neg e, decide_eq_false e, Bool.false_or]; exact valV_any k r
theorem valV_map (k j : κ) (y : V) : ∀ kvs : List (κ × V), valV (kvs.map fun kv => if kv.1 = k then (kv.1, y) else kv) j = (valV kvs j).map fun x => if j = k then y else x
  | [] => rfl
  | p :: r => by
    have ih := valV_map k j y r
    rw [List.map_cons]
    by_cases h : p.1 = k
    · rw [if_pos h]
      by_cases e : p.1 = j
      · rw [valV_pos (p := (p.1, y)) e, valV_pos e, Option.map_some, if_pos (e.symm.trans h)]
      · rw [valV_neg (p := (p.1, y)) e, valV_neg e, ih]
    · rw [if_neg h]
      by_cases e : p.1 = j
      · rw [valV_pos (p := p) e, valV_pos e, Option.map_some, if_neg (fun z => h (e.trans z))]
      · rw [valV_neg (p := p) e, valV_neg e, ih]
theorem valV_snoc (k j : κ) (y : V) : ∀ kvs : List (κ × V), valV kvs k = none → valV (kvs ++ [(k, y)]) j = if j = k then some y else valV kvs j
  | [], _ => by
    by_cases e : k = j
    · rw [if_pos e.symm]; exact valV_pos (p := (k, y)) e
    · rw [if_neg (fun z => e z.symm)]; exact valV_neg (p := (k, y)) e
  | p :: r, hn => by
    rw [List.cons_append]
    have hk : ¬ p.1 = k := fun z => by rw [valV_pos z] at hn; cases hn
    rw [valV_neg hk] at hn
    have ih := valV_snoc k j y r hn
    by_cases e : p.1 = j
    · rw [valV_pos e, valV_pos e, if_neg (fun z => hk (e.trans z))]
    · rw [valV_neg e, valV_neg e, ih]
theorem valV_put (kvs : List (κ × V)) (k j : κ) (y : V) : valV (putK kvs k y) j = if j = k then some y else valV kvs j := by
  unfold putK
  by_cases a : (kvs.any fun kv => decide (kv.1 = k)) = true
  · rw [if_pos a, valV_map]
    rw [valV_any] at a
    by_cases e : j = k
    · obtain ⟨x, hx⟩ := Option.isSome_iff_exists.mp a
      rw [if_pos e, e, hx, Option.map_some, if_pos rfl]
    · rw [if_neg e]
      cases valV kvs j with
      | none => rfl
      | some x => rw [Option.map_some, if_neg e]
  · rw [if_neg a]
    refine valV_snoc k j y kvs ?_
    rw [valV_any] at a
    cases q : valV kvs k with
    | none => rfl
    | some x => rw [q] at a; exact (a rfl).elim
theorem length_putK (kvs : List (κ × V)) (k : κ) (v : V) : (putK kvs k v).length ≤ kvs.length + 1 := by
  unfold putK
  split
  · rw [List.length_map]; omega
  · rw [List.length_append, List.length_cons, List.length_nil]; omega
/-- raw tables of the same keys -/
theorem KV.val {kvs : List (κ × V)} {vs : List (κ × Value)} (r : KV kvs vs) (k : κ) : RelO (valV kvs k) (valueAt vs k) := by
  unfold KV at r
  induction r with
  | nil => exact True.intro
  | @cons p q ps qs h t ih =>
    obtain ⟨h1, h2⟩ := h
    by_cases e : p.1 = k
    · have e' : q.1 = k := h1.symm.trans e
      have b : valueAt (q :: qs) k = some q.2 := by simp [valueAt, List.find?_cons, e']
      rw [valV_pos e, b]; exact h2
    · have e' : ¬ q.1 = k := fun z => e (h1.trans z)
      have b : valueAt (q :: qs) k = valueAt qs k := by simp [valueAt, List.find?_cons, e']
      rw [valV_neg e, b]; exact ih
theorem KV.any {kvs : List (κ × V)} {vs : List (κ × Value)} (r : KV kvs vs) (k : κ) : (kvs.any fun kv => decide (kv.1 = k)) = vs.any fun kv => decide (kv.1 = k) := by
  unfold KV at r
  induction r with
  | nil => rfl
  | cons h t ih => rw [List.any_cons, List.any_cons, ih, h.1]
theorem KV.repl {kvs : List (κ × V)} {vs : List (κ × Value)} (r : KV kvs vs) (k : κ) {y : V} {u : Value} (ry : RelV y u) :
    KV (kvs.map fun kv => if kv.1 = k then (kv.1, y) else kv) (vs.map fun kv => if kv.1 = k then (kv.1, u) else kv) := by
  unfold KV at r ⊢
  induction r with
  | nil => exact .nil
  | @cons p q ps qs h t ih =>
    rw [List.map_cons, List.map_cons]
    refine .cons ?_ ih
    obtain ⟨h1, h2⟩ := h
    by_cases e : p.1 = k
    · rw [if_pos e, if_pos (h1.symm.trans e)]; exact ⟨h1, ry⟩
    · rw [if_neg e, if_neg (fun z => e (h1.trans z))]; exact ⟨h1, h2⟩
theorem KV.put {kvs : List (κ × V)} {vs : List (κ × Value)} (r : KV kvs vs) (k : κ) {y : V} {u : Value} (ry : RelV y u) : KV (putK kvs k y) (stored vs k u) := by
  unfold putK stored
  rw [r.any k]
  by_cases e : (vs.any fun kv => decide (kv.1 = k)) = true
  · rw [if_pos e, if_pos e]; exact r.repl k ry
  · rw [if_neg e, if_neg e]; exact Paired.snoc r ⟨rfl, ry⟩
end


theorem kV_is {P : Program} {w : World} {k : Key} {u : Value} (r : RelV (kV k) u) : (mixKind P w).is k u = true := by
  cases k with
  | inl i => obtain ⟨t, e⟩ := (show ∃ t, u = Value.int i t from r); subst e; exact mixKind_int P w i t
  | inr x => obtain ⟨t, e⟩ := (show ∃ t, u = Value.str x t from r); subst e; exact mixKind_str P w x t
theorem items_are {P : Program} {w : World} : ∀ {ks : List Key} {us : List Value}, Vals (ks.map kV) us → ItemsAre (mixKind P w) ks us
  | [], _, r => by rw [List.map_nil] at r; cases r; exact .nil
  | k :: ks, _, r => by
    rw [List.map_cons] at r
    cases r with
    | cons h t => exact .cons (kV_is h) (items_are t)

/-- raw entries of a dict with tuple keys -/
abbrev KT (H : Hp) : List (List Key × V) → List (List Key × Addr × Value) → Prop := Paired fun p q => p.1 = q.1 ∧ H q.2.1 = some (.tup (p.1.map kV)) ∧ RelV p.2 q.2.2
theorem KT.val {H : Hp} {kvs : List (List Key × V)} {xs : List (List Key × Addr × Value)} (r : KT H kvs xs) (k : List Key) : RelO (valV kvs k) ((atKey xs k).map (·.2)) := by
  induction r with
  | nil => exact True.intro
  | @cons p q ps qs h t ih =>
    obtain ⟨h1, _, h2⟩ := h
    by_cases e : p.1 = k
    · have e' : q.1 = k := h1.symm.trans e
      have b : atKey (q :: qs) k = some q.2 := by simp [atKey, List.find?_cons, e']
      rw [valV_pos e, b]; exact h2
    · have e' : ¬ q.1 = k := fun z => e (h1.trans z)
      have b : atKey (q :: qs) k = atKey qs k := by simp [atKey, List.find?_cons, e']
      rw [valV_neg e, b]; exact ih
section
variable {P : Program} {w : World} {H : Hp} {h : Heap} {a : Addr}
theorem rd_of {u : HO} (ok : HOk P w H h) (e : Rd H a u) : ObjOk P w H h a u := e.ok ok
theorem dk_rd {kvs : List (Key × V)} (ok : HOk P w H h) (e : Rd H a (.dK kvs)) : kvs.length ≤ sizeLine ∧ (a == sysModules) = false ∧ ∃ vs, KV kvs vs ∧ h.DictOf (mixKind P w) a vs :=
  show ObjOk P w H h a (.dK kvs) from rd_of ok e
/-- a tracked tuple of ints and texts is a key -/
theorem key_of {ks : List Key} (ok : HOk P w H h) (e : H a = some (.tup (ks.map kV))) : (tupleKind (mixKind P w)).is h ks a := by
  obtain ⟨_, its, r, o, h1, h2, n, h3⟩ := (show ObjOk P w H h a (.tup (ks.map kV)) from ok a _ e)
  exact ⟨o, its.toArray, n, h1, h2, h3, by simpa using items_are r⟩
theorem dt_rd {kvs : List (List Key × V)} (ok : HOk P w H h) (e : Rd H a (.dT kvs)) : kvs.length ≤ sizeLine ∧ (a == sysModules) = false ∧
    ∃ xs, KT H kvs xs ∧ h.DictOfH (tupleKind (mixKind P w)) a xs := by
  obtain ⟨z, y, xs, r, o, es, ep, h1, h2, h3, h4, h5⟩ := (show ObjOk P w H h a (.dT kvs) from rd_of ok e)
  refine ⟨z, y, xs, r, o, es, ep, h1, h2, h3, h4, fun x hx => ?_, h5⟩
  have all : ∀ {l : List (List Key × V)} {m : List (List Key × Addr × Value)}, KT H l m → ∀ x ∈ m, (tupleKind (mixKind P w)).is h x.1 x.2.1 := by
    intro l m q
    induction q with
    | nil => intro x hx; exact nomatch hx
    | @cons p q ps qs hq t ih =>
      intro x hx
      rcases List.mem_cons.mp hx with e | hx
      · subst e
        exact key_of ok (by rw [← hq.1]; exact hq.2.1)
      · exact ih x hx
  exact all r x hx
end

/-- what the dict at a holds at the key y -/
def DGet (H : Hp) (a : Addr) (y : V) (r : Option V) : Prop :=
  (∃ kvs k, Rd H a (.dK kvs) ∧ y = kV k ∧ r = valV kvs k) ∨ ∃ kvs k b, Rd H a (.dT kvs) ∧ y = .ref b ∧ H b = some (.tup (k.map kV)) ∧ r = valV kvs k
theorem DGet.k {H : Hp} {a : Addr} {kvs : List (Key × V)} {k : Key} (e : H a = some (.dK kvs)) : DGet H a (kV k) (valV kvs k) := .inl ⟨kvs, k, .inl e, rfl, rfl⟩
section
variable {X : Cx} {pins : List (Addr × Obj)} {σ : St} {H : Hp} {s : Shared} {a : Addr} {y v : V} {u r : Value} {o : Option V} {A : Around} {E : Value → Shared → Prop}

theorem Inv.big (I : Inv X pins σ H s) : sysModules < s.heap.objs.size := by
  have h : mainGlobals < s.heap.objs.size := (I.mod.glob.keeps I.bk).lt
  exact Nat.lt_trans (by decide) h

/-- d[y], there -/
theorem d_getItem {Q : Value → Shared → Prop} (hu : A.units + 1 < cLine) (I : Inv X pins σ H s) (g : DGet H a y (some v)) (ry : RelV y u) (h : ∀ w' s', Inv X pins σ H s' → RelV v w' → Q w' s') :
    wpAny (model X.prog X.w) A (getItem (.ref a) u) Q E s := by
  rcases g with ⟨kvs, k, e, ey, l⟩ | ⟨kvs, k, b, e, ey, eb, l⟩
  · subst ey
    obtain ⟨z, hd, vs, rel, dd⟩ := dk_rd I.hok e
    obtain ⟨w', hw, rw'⟩ := RelO.some_of (v := v) (o := valueAt vs k) (by rw [l]; exact rel.val k)
    exact wpAny_getItem_of (kV_is ry) dd.mapOf hw (h w' _ (I.tok _) rw')
  · subst ey
    cases (show u = Value.ref b from ry)
    obtain ⟨z, hd, xs, rel, dd⟩ := dt_rd I.hok e
    obtain ⟨w', hw, rw'⟩ := RelO.some_of (v := v) (o := (atKey xs k).map (·.2)) (by rw [l]; exact rel.val k)
    obtain ⟨p, hp, hp2⟩ := Option.map_eq_some_iff.mp hw
    refine wpAny_getItem_heap (tupleKind_room_in1 hu) (key_of I.hok eb) dd hp ?_
    rw [hp2]
    exact h w' _ (I.tok _) rw'
end

section
variable {X : Cx} {pins : List (Addr × Obj)} {σ : St} {H : Hp} {s : Shared} {a : Addr} {kvs : List (Key × V)} {k : Key} {u : Value} {A : Around} {E : Value → Shared → Prop}
end


/-- the element of a subscription, not a slice -/
def NoSl (i : Expr) : Prop := ∀ ov iv, subscripted i false ov iv = operate [ov, iv] (getItem ov iv)
theorem subD_of {prog : Program} {w : World} {A : Around} {E : Value → Shared → Prop} {s : Shared} {env : Env} {value slice : Expr} {pos : Pos} {T id : String} {Q : Value → Shared → Prop}
    (hl : typeLookup (.type T) "__getitem__" = pure (some (.builtin id))) (hs : NoSl slice)
    (h : wpAny (model prog w) A (eval value env) (fun o s₁ => wpAny (model prog w) A (eval slice env) (fun i s₂ => s₂.TypeIs o T ∧ wpAny (model prog w) A (getItem o i) Q E s₂) E s₁) E s) :
    wpAny (model prog w) A (eval (.Subscript value slice pos) env) Q E s := by
  refine Subscript_ (wpAny_mono h (fun o s₁ h₁ => wpAny_mono h₁ (fun i s₂ h₂ => ?_) fun _ _ x => x) fun _ _ x => x)
  obtain ⟨hT, h₂⟩ := h₂
  unfold subscriptTail
  refine wpAny_bind ?_
  rw [getitemInPython_of_ne hT.not_modules]
  refine wpAny_bind (wpAny_specialOf hT hl ?_)
  have fin : wpAny (model prog w) A (subscripted slice false o i) (fun r s₃ => wpAny (model prog w) A (letTemporaryGo value o r >>= fun _ => pure r) Q E s₃) E s₂ := by
    rw [hs o i]
    exact wpAny_operating (wpAny_mono h₂ (fun r s₃ h₃ => wpAny_bind (wpAny_letTemporaryGo (wpAny_pure h₃))) fun _ _ x => x)
  first
    | exact wpAny_pure (wpAny_bind fin)
    | exact wpAny_bind (wpAny_pure (wpAny_bind fin))
    | exact wpAny_bind fin

theorem dict_typeIs {X : Cx} {pins : List (Addr × Obj)} {σ : St} {H : Hp} {s : Shared} {a : Addr} {y : V} {o : Option V} (I : Inv X pins σ H s) (g : DGet H a y o) : s.TypeIs (.ref a) "dict" := by
  rcases g with ⟨kvs, k, e, _, _⟩ | ⟨kvs, k, b, e, _, _, _⟩
  · obtain ⟨_, _, vs, _, dd⟩ := dk_rd I.hok e
    exact dd.typeIs
  · obtain ⟨_, _, xs, _, dd⟩ := dt_rd I.hok e
    exact dd.typeIs
/-- d[y] -/
def tDGet (td ty : TE) : TE := fun σ H Q => td σ H fun x H1 => ty σ H1 fun y H2 => ∃ a v, x = .ref a ∧ DGet H2 a y (some v) ∧ Q v H2
section
variable {X : Cx} {o i e value : Expr} {pos pos' tpos : Pos} {td ty tv : TE}
theorem pe_dget (hu : X.A.units + 1 < cLine) (ho : PE X o td) (hi : PE X i ty) (hs : NoSl i) : PE X (.Subscript o i pos) (tDGet td ty) := by
  intro pins s σ H Q I h
  refine subD_of PySem.F.slot_dict_getitem.lookup hs (thn (ho pins s σ H _ I h) fun u s1 ⟨x, H1, I1, rx, q1⟩ => thn (hi pins s1 σ H1 _ I1 q1) fun iv s2 ⟨y, H2, I2, ry, a, v, ex, g, q2⟩ => ?_)
  subst ex
  obtain rfl : u = Value.ref a := rx
  exact ⟨dict_typeIs I2 g, d_getItem hu I2 g ry fun w' s3 I3 rw' => ⟨v, H2, I3, rw', q2⟩⟩
end


section
variable {X : Cx} {pos : Pos}
end

section
variable {X : Cx} {pins : List (Addr × Obj)} {σ : St} {H : Hp} {s : Shared} {a : Addr} {y d : V} {u r : Value} {o : Option V} {A : Around} {E : Value → Shared → Prop}
end

section
variable {X : Cx} {o e f : Expr} {apos cpos : Pos} {td ty tx : TE}
end

section
variable {X : Cx} {pins : List (Addr × Obj)} {σ : St} {H : Hp} {s : Shared} {a : Addr} {kvs : List (Key × V)} {A : Around} {E : Value → Shared → Prop}
end


section
variable {X : Cx} {pins : List (Addr × Obj)} {σ : St} {H : Hp} {s : Shared} {a : Addr} {y : V} {u : Value} {A : Around} {E : Value → Shared → Prop}
end
end L2

namespace L2
open PySem PySem.Spec PyProof.Rows
section
variable {X : Cx}
end
section
variable {κ : Type} [DecidableEq κ]
end
end L2

set_option Elab.async false
set_option linter.all false
set_option maxRecDepth 100000
namespace Mx
open PySem L2 PyProof.Rows
structure QE (X : Cx) (e : Expr) (t : TE) : Prop where
  of : PE X e t
section
variable {X : Cx} {e o i : Expr} {te td ty : TE} {pos : Pos}
theorem qe_of (h : PE X e te) : QE X e te := ⟨h⟩
theorem qs_setE {i : Nat} {x : Str} {pos' : Pos} (hN : X.N.Nodup) (hi : X.N[i]? = some x) (hx : Loc X.env.scope x) (he : QE X e te) (hs : swapsWith e (some (.Name x pos')) pos.line X.env = pure false := by rfl) (hf : X.fn x = true ∨ X.env.scope.names.lookup x = some .local := by first | exact .inl rfl | exact .inr rfl | assumption) :
    QS X (.Assign [.Name x pos'] e pos) (tAsg te (gName i)) := ⟨ps_set hN hi hx he.of hs hf⟩
theorem qs_retE (he : QE X e te) : QS X (.Return (some e) pos) (tRet te) := ⟨ps_ret he.of⟩
structure QT (X : Cx) (e : Expr) (t : TT) : Prop where
  of : PT X e t
theorem qs_ifT {a b : List Stmt} {t u : TS} {c : Expr} {tc : TT} (hc : QT X c tc) (ha : QSs X a t) (hb : QSs X b u) : QS X (.If c a b pos) (tIfS tc t u) := ⟨ps_if hc.of ha.of hb.of⟩
def tTStrs (xs : List Str) : TE := fun _ H Q => xs.length ≤ sizeLine ∧ ∀ p, H p = none → Q (.ref p) (upd H p (.tup (xs.map V.str)))
theorem qe_tstrs {es : List Expr} {k} {xs : List Str} (h : strsOf es = some xs) : QE X (.Tuple es k pos) (tTStrs xs) := ⟨by
  intro pins s σ H Q I hq
  refine pe_tup (pa_strs h) pins s σ H Q I ?_
  exact ⟨by rw [List.length_map]; exact hq.1, hq.2⟩⟩
theorem qe_strs {es : List Expr} {xs : List Str} (h : strsOf es = some xs) : QE X (.List es pos) (tStrs xs) := ⟨pe_strs h⟩
theorem qt_cmpR {a b : Expr} {ta tb : TE} {op : CmpOp} {r : R2} (ho : OpR X (compareOp op) r) (ha : QE X a ta) (hb : QE X b tb) (hm : behindInMarks op b = false) : QT X (.Compare a [op] [b] pos) (tTest (tOp r ta tb)) := ⟨pt_cmpR ho ha.of hb.of hm⟩
theorem qe_ix {a b : Expr} {ta tb : TE} {r : R2} (hr : IxR X r) (ha : QE X a ta) (hb : QE X b tb) (hs : PlainIx b) : QE X (.Subscript a b pos) (tOp r ta tb) := ⟨pe_ix hr ha.of hb.of hs⟩
structure QA (X : Cx) (es : List Expr) (t : TA) : Prop where
  of : PA X es t
theorem qa_nil : QA X [] tNil := ⟨pa_nil⟩
theorem qe_lst {es : List Expr} {t : TA} (h : QA X es t) : QE X (.List es pos) (tLst t) := ⟨pe_lst h.of⟩
theorem qe_tup {es : List Expr} {k} {t : TA} (h : QA X es t) : QE X (.Tuple es k pos) (tTup t) := ⟨pe_tup h.of⟩
end
end Mx
set_option Elab.async false
set_option linter.all false
set_option maxRecDepth 100000
namespace Mx
open PySem L2 PyProof.Rows
section
variable {X : Cx} {e a b c : Expr} {es : List Expr} {te ta tb : TE} {t : TA} {tA tB' : TT} {pos p : Pos} {x : Str} {rest : List Expr}
theorem qa_cs {k : Const} {j} (ha : QE X (.Constant k j pos) te) (hr : QA X es t) : QA X (.Constant k j pos :: es) (tCons te t) := ⟨pa_cs ha.of hr.of⟩
theorem qa_nm {x : Str} (ha : QE X (.Name x pos) te) (hr : QA X es t) : QA X (.Name x pos :: es) (tCons te t) := ⟨pa_nm ha.of hr.of⟩
theorem qa_cl {f xs ks} (ha : QE X (.Call f xs ks pos) te) (hr : QA X es t) : QA X (.Call f xs ks pos :: es) (tCons te t) := ⟨pa_cl ha.of hr.of⟩
theorem qa_sb {o i : Expr} (ha : QE X (.Subscript o i pos) te) (hr : QA X es t) : QA X (.Subscript o i pos :: es) (tCons te t) := ⟨pa_cons ha.of hr.of rfl⟩
theorem qa_bo {o i : Expr} {op} (ha : QE X (.BinOp o op i pos) te) (hr : QA X es t) : QA X (.BinOp o op i pos :: es) (tCons te t) := ⟨pa_cons ha.of hr.of rfl⟩
theorem qa_tp {xs k} (ha : QE X (.Tuple xs k pos) te) (hr : QA X es t) : QA X (.Tuple xs k pos :: es) (tCons te t) := ⟨pa_cons ha.of hr.of rfl⟩
theorem qa_ls {xs} (ha : QE X (.List xs pos) te) (hr : QA X es t) : QA X (.List xs pos :: es) (tCons te t) := ⟨pa_cons ha.of hr.of rfl⟩
theorem qa_cp {l o r} (ha : QE X (.Compare l o r pos) te) (hr : QA X es t) : QA X (.Compare l o r pos :: es) (tCons te t) := ⟨pa_cons ha.of hr.of rfl⟩
theorem qa_lc {l o r} (ha : QE X (.ListComp l o r pos) te) (hr : QA X es t) : QA X (.ListComp l o r pos :: es) (tCons te t) := ⟨pa_cons ha.of hr.of rfl⟩
theorem qe_op {op : Operator} {r : R2} (ho : OpR X (binaryOp op) r) (ha : QE X a ta) (hb : QE X b tb) : QE X (.BinOp a op b pos) (tOp r ta tb) := ⟨pe_op ho ha.of hb.of⟩
theorem qe_cmpR {op : CmpOp} {r : R2} (ho : OpR X (compareOp op) r) (ha : QE X a ta) (hb : QE X b tb) (hm : behindInMarks op b = false) : QE X (.Compare a [op] [b] pos) (tOp r ta tb) := ⟨pe_cmpR ho ha.of hb.of hm⟩
structure QW (X : Cx) (e : Expr) (t : TT) : Prop where
  of : PW X e t
theorem qw_or1 (ha : QT X a tA) : QW X (.BoolOp .Or [a] pos) tA := ⟨pw_or1 ha.of⟩
theorem qw_or (ha : QT X a tA) (hb : QW X (.BoolOp .Or (b :: rest) pos) tB') : QW X (.BoolOp .Or (a :: b :: rest) pos) (tOr tA tB') := ⟨pw_or ha.of hb.of⟩
theorem QW.pt (h : QW X e tA) : QT X e tA := ⟨h.of.pt⟩
variable {id T : String} {r : List V → Hp → VK → Prop}
theorem qe_callB (hc : CallR X (.builtin id) r) (hg : Gl X x) (hm : X.mg x = none) (hv : bootBuiltins x = some (.builtin id)) (ha : QA X (e :: es) t) (hn : x ≠ "__name__" := by decide) (hdb : (x == ("__debug__" : Str)) = false := by decide)
    (he : starEach (e :: es) X.env = (false, eval e X.env) :: starEach es X.env := by rfl) (hpl : (backTo pos (starEach es X.env)).any (·.1) = false := by rfl) : QE X (.Call (.Name x p) (e :: es) [] pos) (tCB r t) := ⟨pe_callB hc hg hm hv ha.of hn hdb he hpl⟩
theorem qe_callTy (hc : CallR X (.type T) r) (hg : Gl X x) (hm : X.mg x = none) (hv : bootBuiltins x = some (.type T)) (ha : QA X (e :: es) t) (hn : x ≠ "__name__" := by decide) (hdb : (x == ("__debug__" : Str)) = false := by decide)
    (he : starEach (e :: es) X.env = (false, eval e X.env) :: starEach es X.env := by rfl) (hpl : (backTo pos (starEach es X.env)).any (·.1) = false := by rfl) : QE X (.Call (.Name x p) (e :: es) [] pos) (tCB r t) := ⟨pe_callTy hc hg hm hv ha.of hn hdb he hpl⟩
theorem qe_callH {k m : Nat} {ps : List Str} {sp : Sp} (h : Has X.prog X.w X.K X.mg X.base k x ps sp) (hr : Room m X.A) (ha : QA X (e :: es) t) (hk : k ≤ m := by decide) (hg : Gl X x := by rfl)
    (hdb : (x == ("__debug__" : Str)) = false := by decide) (he : starEach (e :: es) X.env = (false, eval e X.env) :: starEach es X.env := by rfl) (hpl : (backTo pos (starEach es X.env)).any (·.1) = false := by rfl) : QE X (.Call (.Name x p) (e :: es) [] pos) (tCall sp [] E0 t) := ⟨pe_callH h hr ha.of hk hg hdb he hpl⟩
structure QI (X : Cx) (tg iter : Expr) (wi : TI) : Prop where
  of : PI X tg iter wi
theorem qi_of {tg iter : Expr} {wi : TI} (h : PI X tg iter wi) : QI X tg iter wi := ⟨h⟩
theorem qi_list {tg l : Expr} {tl : TE} (h : QE X l tl) : QI X tg l (iList X.K tl) := ⟨pi_list h.of⟩
theorem qi_tup {tg l : Expr} {tl : TE} (h : QE X l tl) : QI X tg l (iTup X.K tl) := ⟨pi_tup h.of⟩
theorem qs_for {tg iter : Expr} {body : List Stmt} {wi : TI} {g : TG} {tb : TS} (hp : PassesOwn (model X.prog X.w) X.A X.env X.xe) (hc : X.calm = true) (hi : QI X tg iter wi) (hg : PG X tg g) (hb : QSs X body tb) (hs : ∀ x, foldedSetIterable iter X.env x = pure x := by intro _; rfl) : QS X (.For tg iter body [] pos) (tFor wi g tb) := ⟨ps_for hp hc hi.of hg hb.of hs⟩
theorem qs_expr (he : QE X e te) (hs : swapsWith e none pos.line X.env = pure false := by rfl) : QS X (.Expr e pos) (tDrop te) := ⟨ps_expr he.of hs⟩
theorem qs_asg {tg : Expr} {g : TG} (he : QE X e te) (hg : PG X tg g) (hs : swapsWithSole [tg] e pos.line X.env = pure false := by rfl) (hw : swappedStores [tg] e X.env = pure none := by rfl) (h1 : (assignEach [tg] X.env).map (·.2) = [assign tg X.env] := by rfl) : QS X (.Assign [tg] e pos) (tAsg te g) := ⟨ps_asg he.of hg hs hw h1⟩
end
end Mx
namespace Mx
open PySem L2 PyProof.Rows
theorem qss_litQ {X : Cx} {st : Stmt} {rest ss : List Stmt} {t : TS} (h : ss = st :: rest) (p : QSs X (st :: rest) t) : QSs X ss t := h ▸ p
section
variable {P : Program} {w : World} {K : PySem.W.Frag} {mg : Str → Option Value} {base : Heap}
theorem Has.ofQ {x : Str} {st : Stmt} {ps N : List Str} {k : Nat} {sp : Sp} (F : FnAt K mg x st ps) (S : FnScope N ps (defScope st)) (len : ∀ vs H Q E, sp vs H Q E → vs.length = ps.length)
    (hbody : ∀ (f : Addr) (cdv : Value) (A : Around) (outer : List Env) (s : Shared) (H : Hp) (vs : List V) (Q : VK) (E : XK), Room k (A.deeper (envOfC x (defScope st) s.heap.objs.size f cdv)) → sp vs H Q E →
      ∃ t, QSs (cxOf CX0 P w K mg base N x (defScope st) f cdv A outer s H E).nox (defBody st) t ∧ t { nx := fun _ H' => Q .non H', rt := Q } (start N vs) H) : Has P w K mg base (k + 1) x ps sp :=
  Has.of F S len fun f cdv A outer s H vs Q E hr h => by
    obtain ⟨t, h1, h2⟩ := hbody f cdv A outer s H vs Q E hr h
    exact ⟨t, h1.of, h2⟩
theorem Fun.okQ {x qual : Str} {st : Stmt} {f : Addr} {fd : FuncData} {N ps : List Str} {k : Nat} {sp : Sp} (F : Fun K x qual st f fd) (S : FnScope N ps (defScope st)) (len : ∀ vs H Q E, sp vs H Q E → vs.length = ps.length)
    (hbody : ∀ (cdv : Value) (A : Around) (outer : List Env) (s : Shared) (H : Hp) (vs : List V) (Q : VK) (E : XK), Room k (A.deeper (envOfC qual (defScope st) s.heap.objs.size f cdv)) → sp vs H Q E →
      ∃ t, QSs (cxOf CX0 P w K mg base N qual (defScope st) f cdv A outer s H E).nox (defBody st) t ∧ t { nx := fun _ H' => Q .non H', rt := Q } (start N vs) H) : FnOk P w K mg base CX0 (k + 1) f fd ps sp :=
  F.ok S len fun cdv A outer s H vs Q E hr h => by
    obtain ⟨t, h1, h2⟩ := hbody cdv A outer s H vs Q E hr h
    exact ⟨t, h1.of, h2⟩
end
end Mx
set_option Elab.async false
set_option linter.all false
set_option maxRecDepth 100000
namespace Mx
open PySem L2 PyProof.Rows
section
variable {P : Program} {w : World} {K : PySem.W.Frag} {mg : Str → Option Value} {base : Heap} {C : Addr}
end
section
variable {X : Cx} {e o value : Expr} {es : List Expr} {te ta tv : TE} {t : TA} {pos p apos pos' : Pos} {C : Addr} {m x f : Str}
end
end Mx
set_option Elab.async false
set_option linter.all false
set_option maxRecDepth 100000
namespace L2
open PySem PySem.Spec PyProof.Rows
/-- the numbers ahead of n -/
def natsV (n : Nat) : List V := (List.range n).map fun i : Nat => V.int i
theorem vals_items : ∀ {n : Nat} {acc : Array Value}, ItemsOf (fun i v => ∃ t, v = Value.int (0 + (i : Int) * 1) t) acc n → Vals (natsV n) acc.toList := by
  intro n acc h
  have go : ∀ (k : Nat) (l : List Value), (∀ (j : Nat) v, l[j]? = some v → ∃ t, v = Value.int ((k + j : Nat) : Int) t) → Vals ((List.range' k l.length).map fun i : Nat => V.int i) l := by
    intro k l
    induction l generalizing k with
    | nil => intro _; exact .nil
    | cons v l ih =>
      intro hj
      obtain ⟨t, rfl⟩ := hj 0 v rfl
      rw [List.length_cons, List.range'_succ, List.map_cons]
      refine .cons ⟨t, by simp⟩ (ih (k + 1) fun j v hv => ?_)
      obtain ⟨t, e⟩ := hj (j + 1) v (by simpa using hv)
      exact ⟨t, by rw [e]; congr 1; omega⟩
  have := go 0 acc.toList fun j v hv => by
    obtain ⟨t, e⟩ := h.2 j v (by simpa using hv)
    exact ⟨t, by rw [e]; congr 1; omega⟩
  have hl : acc.toList.length = n := by rw [Array.length_toList]; exact h.1
  rw [hl] at this
  unfold natsV
  rw [List.range_eq_range']
  exact this
section
variable {X : Cx}
def tLR (ta : TA) : TE := fun σ H Q => ta σ H fun vs H1 => ∃ n : Nat, vs = [.int (n : Int)] ∧ n ≤ 1000 ∧ ∀ l, H1 l = none → Q (.ref l) (upd H1 l (.lst (natsV n)))
theorem pe_listRange {a : Expr} {ta : TA} {p p2 pos pos2 : Pos} (hh : X.A.handled = none) (hgl : Gl X "list") (hml : X.mg "list" = none) (hgr : Gl X "range") (hmr : X.mg "range" = none) (ha : PA X [a] ta)
    (hs : starEach [a] X.env = [(false, eval a X.env)] := by rfl)
    (hs2 : starEach [.Call (.Name "range" p2) [a] [] pos2] X.env = [(false, eval (.Call (.Name "range" p2) [a] [] pos2) X.env)] := by rfl) :
    PE X (.Call (.Name "list" p) [.Call (.Name "range" p2) [a] [] pos2] [] pos) (tLR ta) := by
  intro pins s σ H Q I h
  refine Call_ (ld_blt I hgl hml boot_list (PyProof.Rows.callWith_type1 ?_ hs2 rfl))
  rw [hs2]
  show wpAny _ _ (spliced ((false, eval (.Call (.Name "range" p2) [a] [] pos2) X.env) :: backTo pos (starEach [] X.env))) _ _ s
  refine Calls.spliced_cons ?_
  refine Call_ (ld_blt I hgr hmr boot_range (PyProof.Rows.callWith_type1 (thn (ha pos2 pins s σ H _ I h) fun us s1 ⟨vs, H1, I1, r1, q1⟩ => ?_) hs rfl))
  obtain ⟨n, e, hn, q⟩ := q1
  subst e
  obtain ⟨u, rfl, r⟩ := vals1 r1
  obtain ⟨t, rfl⟩ := r
  refine call_range_1 ?_
  refine Calls.spliced_nil ?_
  have I2 : Inv X pins σ H1 { s1 with heap := s1.heap.push { cls := .type "range", data := .fields #[.int 0 s1.toks, .int n t, .int 1 (s1.toks + 1)] }, toks := s1.toks + 1 + 1 } := I1.kept fun b o e => Heap.get?_push_of_some _ e
  refine call_list_range (n := n) hh (IsRange.new ..) (small_one (by omega) (by omega) (by omega) (by omega)) (by rw [rangeSize_one]; split <;> omega) (by omega) fun h' tk acc' c' kp e hi => ?_
  have r' := vals_items hi
  have hl : (natsV n).length = n := by simp [natsV]
  exact ⟨.ref _, _, I2.laid (t' := tk) kp (Nat.le_refl _) (show ObjOk X.prog X.w _ h' _ (.lst (natsV n)) from ⟨by rw [hl]; exact Nat.le_trans hn (by decide), acc'.toList, c', r', by simpa using e⟩), rfl, q _ (I2.hok.fresh (Nat.le_refl _))⟩
end
end L2
set_option Elab.async false
set_option linter.all false
set_option maxRecDepth 100000
set_option maxHeartbeats 2000000
namespace L2
open PySem PySem.Spec PyProof.Rows PySem.W
section
variable {X : Cx} {pins : List (Addr × Obj)} {σ : St} {H : Hp} {s : Shared} {a C : Addr} {dx : Option Addr}
end
end L2
set_option Elab.async false
set_option linter.all false
set_option maxRecDepth 100000
set_option maxHeartbeats 2000000
namespace L2
open PySem PySem.Spec PyProof.Rows PySem.W
section
variable {X : Cx} {pins : List (Addr × Obj)} {σ : St} {H : Hp} {s : Shared} {a C : Addr} {dx : Option Addr}
end
section
variable {P : Program} {w : World} {K : PySem.W.Frag} {mg : Str → Option Value} {base : Heap} {N : List Str} {qual : Str} {scope : Scope} {f : Addr} {cd : Value} {A : Around} {outer : List Env} {s0 : Shared} {H0 : Hp} {E : XK}
end
section
variable {P : Program} {w : World} {K : PySem.W.Frag} {mg : Str → Option Value} {base : Heap}
end
section
variable {X : Cx} {e o : Expr} {es : List Expr} {ta : TE} {t : TA} {p pos apos : Pos} {x m : Str} {C : Addr} {E : XK}
end
end L2
set_option Elab.async false
set_option linter.all false
set_option maxRecDepth 100000
set_option maxHeartbeats 2000000
namespace L2
open PySem PySem.Spec PyProof.Rows PySem.W
section
variable {X : Cx} {pins : List (Addr × Obj)} {σ : St} {H : Hp} {s : Shared} {v : Value}
variable {e : Expr} {es : List Expr} {p pos apos : Pos} {x m : Str} {C : Addr} {t : TA} {te ta : TE}
end
end L2
set_option Elab.async false
set_option linter.all false
set_option maxRecDepth 100000
set_option maxHeartbeats 2000000
namespace L2
open PySem PySem.Spec PyProof.Rows PySem.W
section
variable {X : Cx} {e o : Expr} {es : List Expr} {t : TA} {ta : TE} {p pos apos : Pos} {x m : Str} {C : Addr}
end
section
variable {P : Program} {w : World} {K : PySem.W.Frag} {mg : Str → Option Value} {base : Heap} {C : Addr}
end
section
variable {X : Cx} {pins : List (Addr × Obj)} {σ : St} {H : Hp} {s : Shared} {e o : Expr} {es : List Expr} {t : TA} {ta : TE} {p pos apos : Pos} {x m : Str} {C : Addr}
end
end L2
set_option Elab.async false
set_option linter.all false
set_option maxRecDepth 100000
set_option maxHeartbeats 2000000
namespace L2
open PySem PySem.Spec PyProof.Rows PySem.W
section
variable {X : Cx}
end
end L2
set_option Elab.async false
set_option linter.all false
set_option maxRecDepth 100000
set_option maxHeartbeats 2000000
namespace L2
open PySem PySem.Spec PyProof.Rows PySem.W
section
variable {X : Cx}
/-- a method of a built-in type, within a comprehension's block -/
theorem pe_bmK {K : PySem.W.Frag} {o e : Expr} {es : List Expr} {to : TE} {t : TA} {name : Str} {apos cpos : Pos} {T id : String} {r : V → List V → Hp → VK → Prop} (hK : X.K = K) (pa : PlainAttrs T) (slot : Slot T name id) (hty : typeOf (.builtin id) = pure (.type "method_descriptor")) (hm : MtR X id r) (ho : PE X o to) (ha : PA X (e :: es) t)
    (hbase : attributeBase o name X.env (eval o X.env) = eval o X.env := by rfl)
    (hfew : ((backTo cpos (starEach (e :: es) X.env)).all (fun x => !x.1) && (backToKw cpos (keywordEach [] X.env)).all (fun x => x.1.isSome)
      && decide ((e :: es).length + ([] : List Keyword).length + (if ([] : List Keyword).isEmpty then 0 else 1) < 30)) = true := by rfl)
    (hline : (apos.endLine == cpos.line) = true := by rfl) (hs : starEach (e :: es) X.env = (false, eval e X.env) :: starEach es X.env := by rfl) (hplain : (backTo cpos (starEach es X.env)).any (·.1) = false := by rfl) :
    PE X (.Call (.Attribute o name apos) (e :: es) [] cpos) (tBM K T r to t) := by
  subst hK
  exact pe_bm pa slot hty hm ho ha hbase hfew hline hs hplain
end
end L2
namespace Mx
open PySem L2 PyProof.Rows
section
variable {X : Cx} {o e : Expr} {es : List Expr} {te to : TE} {t : TA} {pos p2 : Pos}
theorem qe_sl {lo hi : Option Expr} {tl th : TO} {r : V → Option Int → Option Int → Hp → VK → Prop} (hr : SlR X r) (he : QE X e te) (hl : PO X lo tl) (hu : PO X hi th) : QE X (.Subscript e (.Slice lo hi none p2) pos) (tSl r te tl th) := ⟨pe_slice hr he.of hl hu⟩
theorem qe_bm {name : Str} {apos cpos : Pos} {T id : String} {r : V → List V → Hp → VK → Prop} (pa : PlainAttrs T) (slot : Slot T name id) (hty : typeOf (.builtin id) = pure (.type "method_descriptor")) (hm : MtR X id r) (ho : QE X o to) (ha : QA X (e :: es) t)
    (hbase : attributeBase o name X.env (eval o X.env) = eval o X.env := by rfl)
    (hfew : ((backTo cpos (starEach (e :: es) X.env)).all (fun x => !x.1) && (backToKw cpos (keywordEach [] X.env)).all (fun x => x.1.isSome)
      && decide ((e :: es).length + ([] : List Keyword).length + (if ([] : List Keyword).isEmpty then 0 else 1) < 30)) = true := by rfl)
    (hline : (apos.endLine == cpos.line) = true := by rfl) (hs : starEach (e :: es) X.env = (false, eval e X.env) :: starEach es X.env := by rfl) (hplain : (backTo cpos (starEach es X.env)).any (·.1) = false := by rfl) :
    QE X (.Call (.Attribute o name apos) (e :: es) [] cpos) (tBM X.K T r to t) := ⟨pe_bm pa slot hty hm ho.of ha.of hbase hfew hline hs hplain⟩
end
end Mx
set_option Elab.async false
set_option linter.all false
set_option maxRecDepth 100000
set_option maxHeartbeats 2000000
namespace L2
open PySem PySem.Spec PyProof.Rows PySem.W
def AtX (H : Hp) (v : V) (d : PyData) : Prop := At H v d ∨ (d = .dict [] ∧ ∃ a, v = .ref a ∧ H a = some (.dK []))
section
variable {X : Cx}
end
end L2
set_option Elab.async false
set_option linter.all false
set_option maxRecDepth 100000
set_option maxHeartbeats 2000000
namespace L2
open PySem PySem.Spec PyProof.Rows PySem.W
section
variable {X : Cx}
end
end L2
set_option Elab.async false
set_option linter.all false
set_option maxRecDepth 100000
set_option maxHeartbeats 4000000
namespace L2
open PySem PyProof.Rows
section
variable {K : PySem.W.Frag} {σ : L2.St} {H : Hp} {te tf : TE} {ta : TA} {d : PyData} {ds es : List PyData} {L : List Addr}
def Sm (D B : Nat) (d : PyData) : Prop := d.showable = true ∧ d.depth ≤ D ∧ d.leavesShort 40 = true ∧ d.bulk ≤ B
theorem Sm.mono {D B D' B' : Nat} {d : PyData} (h : Sm D B d) (h1 : D ≤ D' := by decide) (h2 : B ≤ B' := by decide) : Sm D' B' d := ⟨h.1, Nat.le_trans h.2.1 h1, h.2.2.1, Nat.le_trans h.2.2.2 h2⟩
theorem Sm.list {D B n : Nat} {xs : List PyData} (h : ∀ x ∈ xs, Sm D B x) (hl : xs.length ≤ n) : Sm (D + 1) ((B + 1) * n) (.list xs) := by
  refine ⟨?_, ?_, ?_, ?_⟩
  · simp only [PyData.showable]
    exact Spec.showableAll_of fun x hx => (h x hx).1
  · have := depthAll_le (n := D) (xs := xs) fun x hx => (h x hx).2.1
    simp only [PyData.depth]
    omega
  · unfold PyData.leavesShort
    exact shortAll_of fun x hx => (h x hx).2.2.1
  · have := bulkAll_le (n := B) (xs := xs) fun x hx => (h x hx).2.2.2
    simp only [PyData.bulk]
    exact Nat.le_trans this (Nat.mul_le_mul_left _ hl)
theorem Sm.tuple {D B n : Nat} {xs : List PyData} (h : ∀ x ∈ xs, Sm D B x) (hl : xs.length ≤ n) : Sm (D + 1) ((B + 1) * n) (.tuple xs) := by
  refine ⟨?_, ?_, ?_, ?_⟩
  · simp only [PyData.showable]
    exact Spec.showableAll_of fun x hx => (h x hx).1
  · have := depthAll_le (n := D) (xs := xs) fun x hx => (h x hx).2.1
    simp only [PyData.depth]
    omega
  · unfold PyData.leavesShort
    exact shortAll_of fun x hx => (h x hx).2.2.1
  · have := bulkAll_le (n := B) (xs := xs) fun x hx => (h x hx).2.2.2
    simp only [PyData.bulk]
    exact Nat.le_trans this (Nat.mul_le_mul_left _ hl)
theorem Sm.shown {D B : Nat} {d : PyData} (h : Sm D B d) (hD : D ≤ 60 := by decide) (hB : B ≤ 100000 := by decide) : d.showable = true ∧ d.depth ≤ 60 ∧ d.shown.length ≤ sizeLine := by
  refine ⟨h.1, Nat.le_trans h.2.1 hD, ?_⟩
  have h1 := PyData.shown_le_bulk 40 (by decide) d h.2.2.1
  have h2 := h.2.2.2
  have hsl : (sizeLine : Nat) = 16777216 := rfl
  omega
end
section
variable {X : Cx}
end
end L2
set_option Elab.async false
set_option linter.all false
set_option maxRecDepth 100000
namespace L2
open PySem PySem.Spec PyProof.Rows
def Srt (xs : Array Nat) : Prop := ∀ (i j : Nat) (x y : Nat), i < j → xs[i]? = some x → xs[j]? = some y → x < y
theorem below_go (xs : Array Nat) (j : Nat) (hs : Srt xs) : ∀ (fuel lo hi : Nat), hi - lo ≤ fuel → lo ≤ hi → hi ≤ xs.size → (∀ k x, k < lo → xs[k]? = some x → x < j) → (∀ k x, hi ≤ k → xs[k]? = some x → j ≤ x) →
    (∀ k x, k < SetTable.below.go xs j fuel lo hi → xs[k]? = some x → x < j) ∧ (∀ k x, SetTable.below.go xs j fuel lo hi ≤ k → xs[k]? = some x → j ≤ x) ∧ SetTable.below.go xs j fuel lo hi ≤ xs.size
  | 0, lo, hi, hf, h1, h2, ha, hb => by
    have e : lo = hi := by omega
    subst e
    exact ⟨ha, hb, h2⟩
  | fuel + 1, lo, hi, hf, h1, h2, ha, hb => by
    unfold SetTable.below.go
    by_cases hlt : lo < hi
    · rw [if_pos hlt]
      have hm : (lo + hi) / 2 < xs.size := by omega
      have hg : xs[(lo + hi) / 2]? = some (xs.getD ((lo + hi) / 2) j) := by
        rw [Array.getD_eq_getD_getElem?, Array.getElem?_eq_getElem hm]; rfl
      dsimp only
      by_cases hc : xs.getD ((lo + hi) / 2) j < j
      · rw [if_pos hc]
        refine below_go xs j hs fuel _ hi (by omega) (by omega) h2 (fun k x hk hx => ?_) hb
        by_cases he : k = (lo + hi) / 2
        · subst he; rw [hg] at hx; cases hx; exact hc
        · have := hs k ((lo + hi) / 2) x _ (by omega) hx hg
          omega
      · rw [if_neg hc]
        refine below_go xs j hs fuel lo _ (by omega) (by omega) (by omega) ha (fun k x hk hx => ?_)
        by_cases he : k = (lo + hi) / 2
        · subst he; rw [hg] at hx; cases hx; omega
        · have := hs ((lo + hi) / 2) k _ x (by omega) hg hx
          omega
    · rw [if_neg hlt]
      have e : lo = hi := by omega
      subst e
      exact ⟨ha, hb, h2⟩
theorem below_is {xs : Array Nat} (j : Nat) (hs : Srt xs) : (∀ k x, k < SetTable.below xs j → xs[k]? = some x → x < j) ∧ (∀ k x, SetTable.below xs j ≤ k → xs[k]? = some x → j ≤ x) ∧ SetTable.below xs j ≤ xs.size := by
  unfold SetTable.below
  refine below_go xs j hs xs.size 0 xs.size (by omega) (Nat.zero_le _) (Nat.le_refl _) (fun k x h => absurd h (Nat.not_lt_zero _)) (fun k x h hx => ?_)
  rw [Array.getElem?_eq_none h] at hx; cases hx
theorem below_at {xs : Array Nat} {j n : Nat} (hs : Srt xs) (hn : n ≤ xs.size) (h1 : ∀ k x, k < n → xs[k]? = some x → x < j) (h2 : ∀ k x, n ≤ k → xs[k]? = some x → j ≤ x) : SetTable.below xs j = n := by
  obtain ⟨b1, b2, b3⟩ := below_is j hs
  rcases Nat.lt_trichotomy (SetTable.below xs j) n with h | h | h
  · have hlt : SetTable.below xs j < xs.size := by omega
    have g := Array.getElem?_eq_getElem hlt
    have := h1 _ _ h g
    have := b2 _ _ (Nat.le_refl _) g
    omega
  · exact h
  · have hlt : n < xs.size := by omega
    have g := Array.getElem?_eq_getElem hlt
    have := h2 _ _ (Nat.le_refl _) g
    have := b1 _ _ h g
    omega
theorem insertAt_get {α : Type} (xs : Array α) (p : Nat) (x : α) (hp : p ≤ xs.size) (i : Nat) : (SetTable.insertAt xs p x)[i]? = if i < p then xs[i]? else if i = p then some x else xs[i - 1]? := by
  unfold SetTable.insertAt
  have e1 : ((xs.extract 0 p).push x ++ xs.extract p xs.size).toList = xs.toList.take p ++ x :: xs.toList.drop p := by
    simp
    exact List.take_of_length_le (by simp)
  rw [← Array.getElem?_toList, e1]
  have hl : (xs.toList.take p).length = p := by rw [List.length_take, Array.length_toList]; omega
  by_cases h1 : i < p
  · rw [if_pos h1, List.getElem?_append_left (by omega), List.getElem?_take_of_lt h1, Array.getElem?_toList]
  · rw [if_neg h1, List.getElem?_append_right (by omega), hl]
    by_cases h2 : i = p
    · rw [if_pos h2, h2, Nat.sub_self]; rfl
    · rw [if_neg h2]
      obtain ⟨d, hd⟩ : ∃ d, i - p = d + 1 := ⟨i - p - 1, by omega⟩
      rw [hd, List.getElem?_cons_succ, List.getElem?_drop, Array.getElem?_toList]
      congr 1
      omega
theorem srt_insert {xs : Array Nat} {j : Nat} (hs : Srt xs) (hj : xs[SetTable.below xs j]? ≠ some j) : Srt (SetTable.insertAt xs (SetTable.below xs j) j) := by
  obtain ⟨b1, b2, b3⟩ := below_is j hs
  have hgt : ∀ k x, SetTable.below xs j ≤ k → xs[k]? = some x → j < x := fun k x hk hx => by
    have h1 := b2 k x hk hx
    by_cases he : x = j
    · subst he
      by_cases hk2 : k = SetTable.below xs x
      · subst hk2; exact absurd hx hj
      · have hlt : SetTable.below xs x < xs.size := by
          have := (Array.getElem?_eq_some_iff.mp hx).1
          omega
        have g := Array.getElem?_eq_getElem hlt
        have h2 := hs _ k _ x (by omega) g hx
        have h3 := b2 _ _ (Nat.le_refl _) g
        omega
    · omega
  intro a b x y hab hx hy
  rw [insertAt_get _ _ _ b3] at hx hy
  by_cases ha : a < SetTable.below xs j
  · rw [if_pos ha] at hx
    by_cases hb : b < SetTable.below xs j
    · rw [if_pos hb] at hy
      exact hs a b x y hab hx hy
    · rw [if_neg hb] at hy
      have hxj := b1 a x ha hx
      by_cases hb2 : b = SetTable.below xs j
      · rw [if_pos hb2] at hy; cases hy; exact hxj
      · rw [if_neg hb2] at hy
        have := hgt (b - 1) y (by omega) hy
        omega
  · rw [if_neg ha] at hx
    have hb : ¬ b < SetTable.below xs j := by omega
    rw [if_neg hb] at hy
    by_cases ha2 : a = SetTable.below xs j
    · rw [if_pos ha2] at hx
      cases hx
      rw [if_neg (by omega)] at hy
      exact hgt (b - 1) y (by omega) hy
    · rw [if_neg ha2] at hx
      rw [if_neg (by omega)] at hy
      exact hs (a - 1) (b - 1) x y (by omega) hx hy
theorem srt_range (n : Nat) : Srt (Array.range n) := by
  intro i j x y hij hx hy
  have h1 := (Array.getElem?_eq_some_iff.mp hx).2
  have h2 := (Array.getElem?_eq_some_iff.mp hy).2
  simp at h1 h2
  omega
theorem srt_of {l : List Nat} (h : l.Pairwise (· < ·)) : Srt l.toArray := by
  intro i j x y hij hx hy
  have hx' : l[i]? = some x := by simpa using hx
  have hy' : l[j]? = some y := by simpa using hy
  obtain ⟨hi, e1⟩ := List.getElem?_eq_some_iff.mp hx'
  obtain ⟨hj, e2⟩ := List.getElem?_eq_some_iff.mp hy'
  have := List.pairwise_iff_getElem.mp h i j hi hj hij
  rw [e1, e2] at this
  exact this
end L2
set_option Elab.async false
set_option linter.all false
set_option maxRecDepth 100000
namespace L2
open PySem PySem.Spec PyProof.Rows
def TOk (t : SetTable) : Prop := Srt t.place ∧ t.dummies = #[]
theorem has_none (j : Nat) : SetTable.has #[] j = false := by
  unfold SetTable.has
  simp
theorem slot_no {t : SetTable} (h : TOk t) (j : Nat) : t.slot j ≠ .dummy := by
  unfold SetTable.slot
  rw [h.2, has_none]
  dsimp only
  split
  · intro z; cases z
  · simp
theorem slot_empty {t : SetTable} {j : Nat} (h : t.slot j = .empty) : t.place[SetTable.below t.place j]? ≠ some j := by
  intro e
  unfold SetTable.slot at h
  dsimp only at h
  rw [if_pos (by rw [e]; simp)] at h
  cases h
theorem advance_dummy (t : SetTable) (p : SetTable.Probe) : (t.advance p).dummy = p.dummy := by
  unfold SetTable.advance
  split <;> rfl
theorem probe_empty {t : SetTable} (ht : TOk t) (f : Nat → Int) (h : Int) : ∀ (fuel : Nat) (p : SetTable.Probe) (j : Nat) (d : Option Nat), p.dummy = none → SetTable.probe.go t f h fuel p = some (.empty j d) → t.slot j = .empty ∧ d = none
  | 0, p, j, d, hp, e => by
    unfold SetTable.probe.go at e
    cases e
  | fuel + 1, p, j, d, hp, e => by
    unfold SetTable.probe.go at e
    split at e
    · rename_i hs
      cases e
      exact ⟨hs, hp⟩
    · rename_i hs
      exact absurd hs (slot_no ht _)
    · split at e
      · cases e
      · exact probe_empty ht f h fuel _ j d (by rw [advance_dummy]; exact hp) e
theorem freeSlot_is {t : SetTable} (ht : TOk t) {h : Int} {j : Nat} {b : Bool} (e : t.freeSlot h = some (j, b)) : t.slot j = .empty := by
  unfold SetTable.freeSlot at e
  split at e
  · rename_i j' d hp
    have hq : SetTable.probe.go t (fun _ => h + 1) h (10 * SetTable.turns t.mask) (t.probeStart h) = some (.empty j' d) := hp
    obtain ⟨h1, h2⟩ := probe_empty ht _ _ _ _ _ _ rfl hq
    subst h2
    cases e
    exact h1
  · cases e
theorem put_ok {t : SetTable} (ht : TOk t) {j : Nat} (h : t.slot j = .empty) : TOk (t.put j).1 ∧ (t.put j).1.led = t.led := by
  refine ⟨⟨srt_insert ht.1 (slot_empty h), ?_⟩, rfl⟩
  show (if SetTable.has t.dummies j then SetTable.eraseAt t.dummies (SetTable.below t.dummies j) else t.dummies) = #[]
  rw [ht.2, has_none]
  rfl
theorem standIn_ok (t : SetTable) (n : Nat) : TOk (t.standIn n) ∧ (t.standIn n).led = t.led := ⟨⟨srt_range n, rfl⟩, rfl⟩
theorem orStandIn_ok {t : SetTable} (ht : TOk t) (n : Nat) : TOk (t.orStandIn n) ∧ (t.orStandIn n).led = t.led := by
  unfold SetTable.orStandIn
  split
  · exact ⟨ht, rfl⟩
  · exact standIn_ok t n
theorem layNew_ok {t : SetTable} (ht : TOk t) (es : Array (Int × Value)) (h : Int) (x : Value) : TOk (layNew t es h x).2.1 ∧ (layNew t es h x).2.1.led = t.led := by
  unfold layNew
  split
  · rename_i j b e
    have hp := put_ok ht (freeSlot_is ht e)
    have ho := orStandIn_ok hp.1 (SetTable.insertAt es (t.put j).2 (h, x)).size
    exact ⟨ho.1, ho.2.trans hp.2⟩
  · exact standIn_ok t _
theorem pairwise_filterMap {α : Type} (f : Nat → Option α) : ∀ (l : List Nat), l.Pairwise (· < ·) → ((l.filterMap fun j => (f j).map (j, ·)).map (·.1)).Pairwise (· < ·) := by
  intro l hl
  have hsub : ((l.filterMap fun j => (f j).map (j, ·)).map (·.1)).Sublist l := by
    induction l with
    | nil => exact .slnil
    | cons a l ih =>
      rw [List.filterMap_cons]
      have := ih (List.pairwise_cons.mp hl).2
      cases f a with
      | none => exact .cons _ this
      | some b => exact .cons₂ _ this
  exact hl.sublist hsub
theorem relaid_ok {t t' : SetTable} {hs : Array Int} {n : Nat} {o : Array Nat} (e : t.relaid hs n = some (t', o)) : TOk t' ∧ t'.led = t.led := by
  unfold SetTable.relaid SetTable.laid at e
  cases ho : SetTable.layClean (SetTable.sizeAbove n - 1) hs with
  | none => rw [ho] at e; cases e
  | some owner =>
    rw [ho] at e
    cases e
    refine ⟨⟨srt_of ?_, rfl⟩, rfl⟩
    exact pairwise_filterMap (fun j => owner.getD j none) _ List.pairwise_lt_range
theorem relayAll_ok {t : SetTable} (es : Array (Int × Value)) (n : Nat) : TOk (relayAll t es n).2.1 ∧ (relayAll t es n).2.1.led = t.led := by
  unfold relayAll
  split
  · rename_i t' o e
    dsimp only
    split
    · exact relaid_ok e
    · exact standIn_ok t _
  · exact standIn_ok t _
def byTx (w : World) : Bool := w.params.followText "set-order"
def SetL (P : Program) (w : World) (h : Heap) (a : Addr) (ks : List Int) : Prop :=
  ∃ o es ep t, h.get? a = some o ∧ o.ExactSet ∧ o.data = .set es ep t ∧ ElemsOf (intKind P w) es.toList ∧ (∃ ns, IntsAre (es.toList.map (·.2)) ns ∧ ns.Perm ks) ∧ es.size < scanBound ∧ t.fits es.size = true ∧ TOk t ∧ (byTx w = true ∨ t.led = true)
end L2
set_option Elab.async false
set_option linter.all false
set_option maxRecDepth 100000
namespace L2
open PySem PySem.Spec PyProof.Rows
theorem ints_perm {vs' vs : List Value} (p : vs'.Perm vs) : ∀ {ns : List Int}, IntsAre vs ns → ∃ ns', IntsAre vs' ns' ∧ ns'.Perm ns := by
  induction p with
  | nil => intro ns h; exact ⟨ns, h, List.Perm.refl _⟩
  | cons x _ ih =>
    intro ns h
    cases h with
    | cons n t r =>
      obtain ⟨ns', h1, h2⟩ := ih r
      exact ⟨n :: ns', .cons n t h1, h2.cons n⟩
  | swap x y l =>
    intro ns h
    cases h with
    | cons n t r =>
      cases r with
      | cons m u r => exact ⟨m :: n :: _, .cons m u (.cons n t r), List.Perm.swap ..⟩
  | trans _ _ ih1 ih2 =>
    intro ns h
    obtain ⟨n1, a1, b1⟩ := ih2 h
    obtain ⟨n2, a2, b2⟩ := ih1 a1
    exact ⟨n2, a2, b2.trans b1⟩
theorem ints_mem : ∀ {vs : List Value} {ns : List Int}, IntsAre vs ns → (∀ v ∈ vs, ∃ n t, v = .int n t ∧ n ∈ ns) ∧ ∀ n ∈ ns, ∃ t, Value.int n t ∈ vs
  | _, _, .nil => ⟨fun v h => by simp at h, fun n h => by simp at h⟩
  | _, _, .cons n t r => by
    obtain ⟨h1, h2⟩ := ints_mem r
    refine ⟨fun v hv => ?_, fun m hm => ?_⟩
    · rcases List.mem_cons.mp hv with rfl | hv
      · exact ⟨n, t, rfl, List.mem_cons_self ..⟩
      · obtain ⟨m, u, e, hm⟩ := h1 v hv
        exact ⟨m, u, e, List.mem_cons_of_mem _ hm⟩
    · rcases List.mem_cons.mp hm with rfl | hm
      · exact ⟨t, List.mem_cons_self ..⟩
      · obtain ⟨u, hu⟩ := h2 m hm
        exact ⟨u, List.mem_cons_of_mem _ hu⟩
theorem ints_snoc : ∀ {vs : List Value} {ns : List Int} (k : Int) (t : Tok), IntsAre vs ns → IntsAre (vs ++ [.int k t]) (ns ++ [k])
  | _, _, k, t, .nil => .cons k t .nil
  | _, _, k, t, .cons n u r => .cons n u (ints_snoc k t r)
section
variable {P : Program} {w : World} {A : Around} {E : Value → Shared → Prop} {s : Shared} {a : Addr} {ks : List Int}
theorem storeL {o : Obj} {es : Array (Int × Value)} {ep : Nat} {t : SetTable} {es' : Array (Int × Value)} {t' : SetTable} {ks' : List Int} {h : Heap} (g : h.get? a = some o) (gx : o.ExactSet) (gd : o.data = .set es ep t)
    (el : ElemsOf (intKind P w) es'.toList) (hv : ∃ ns, IntsAre (es'.toList.map (·.2)) ns ∧ ns.Perm ks') (hb : es'.size < scanBound) (hf : t'.fits es'.size = true) (ht : TOk t') (hl : byTx w = true ∨ t'.led = true) :
    (h.update a (Obj.putSet es' t')).get? a = some { o with data := .set es' (ep + 1) t' } ∧ SetL P w (h.update a (Obj.putSet es' t')) a ks' := by
  have hg : (h.update a (Obj.putSet es' t')).get? a = some { o with data := .set es' (ep + 1) t' } := by
    have z := Heap.get?_update_self (Obj.putSet es' t') g (by rw [putSet_of es' t' gd]; rfl)
    rw [putSet_of es' t' gd] at z
    exact z
  exact ⟨hg, _, es', ep + 1, t', hg, gx, rfl, el, hv, hb, hf, ht, hl⟩
theorem addL {k : Int} {tk : Tok} {Q : Bool → Shared → Prop} (hS : SetL P w s.heap a ks) (hroom : ks.length + 1 < scanBound)
    (h : ∀ b h', Heap.SameBut a s.heap h' → SetL P w h' a (if k ∈ ks then ks else ks ++ [k]) → Q b { s with heap := h' }) :
    wpAny (model P w) A (setAddHashed a (.int k tk) ((intKind P w).hash k)) Q E s := by
  obtain ⟨o, es, ep, t, g, gx, gd, el, ⟨ns, hi, hp⟩, hb, hf, ht, hl⟩ := hS
  have hlen : es.size = ks.length := by
    have h1 := IntsAre.length hi
    rw [List.length_map, Array.length_toList] at h1
    rw [h1, hp.length_eq]
  have kk : (intKind P w).is k (.int k tk) = true := intKind_is _ _ _ _
  unfold setAddHashed setAddHashedIn
  refine wpAny_holding (wpAny_bind (wpAny_setState_of g gd hf ?_))
  dsimp only
  rw [byScan_of (knd := intKind P w) rfl hb el]
  simp only [↓reduceIte]
  unfold setAddByScan
  refine wpAny_bind ?_
  refine wpAny_bind (wpAny_rule ?_)
  refine wpAny_bind (wpAny_setScan_of kk g gd hf el ?_)
  have same : ∀ m u, (intKind P w).is k (.int m u) = true → m = k := fun m u z => (intKind P w).inj _ m k (intKind_is _ _ _ _) z
  cases hr : List.findIdx? (fun e => (intKind P w).is k e.2) es.toList with
  | some j =>
    dsimp only
    obtain ⟨hj, hpj, _⟩ := List.findIdx?_eq_some_iff_getElem.mp hr
    have hin : k ∈ ks := by
      obtain ⟨m, u, e, hm⟩ := (ints_mem hi).1 (es.toList[j]).2 (List.mem_map.mpr ⟨_, List.getElem_mem hj, rfl⟩)
      rw [e] at hpj
      have := same m u hpj
      subst this
      exact hp.mem_iff.mp hm
    refine wpAny_pure (wpAny_pure ?_)
    have e : s = { s with heap := s.heap } := by cases s; rfl
    have z := h false s.heap (Heap.SameBut.refl a s.heap) (by rw [if_pos hin]; exact ⟨o, es, ep, t, g, gx, gd, el, ⟨ns, hi, hp⟩, hb, hf, ht, hl⟩)
    rw [e]
    exact z
  | none =>
    dsimp only
    have hout : k ∉ ks := fun hin => by
      obtain ⟨u, hu⟩ := (ints_mem hi).2 k (hp.mem_iff.mpr hin)
      obtain ⟨e, he, e2⟩ := List.mem_map.mp hu
      have z := List.findIdx?_eq_none_iff.mp hr e he
      rw [e2] at z
      rw [show (intKind P w).is k (.int k u) = true from intKind_is _ _ _ _] at z
      cases z
    rw [if_neg hout] at h
    have gw : ∀ (b : Bool) {s1 : Shared} {Q' : Unit → Shared → Prop}, Q' () s1 → wpAny (model P w) A (match b with | true => rule "set.scan.the-table-gave-way" | false => pure ()) Q' E s1 := fun b s1 Q' z => by cases b <;> first | exact wpAny_pure z | exact wpAny_rule z
    have pm := layNew_perm t es ((intKind P w).hash k) (.int k tk)
    have fm := layNew_fits t es ((intKind P w).hash k) (.int k tk)
    have tm := layNew_ok ht es ((intKind P w).hash k) (.int k tk)
    generalize hL : layNew t es ((intKind P w).hash k) (.int k tk) = L at pm fm tm ⊢
    obtain ⟨es1, t1, wasDummy, gave⟩ := L
    dsimp only at pm fm tm ⊢
    rw [Array.toList_push] at pm
    have el1 : ElemsOf (intKind P w) es1.toList := (el.push kk rfl).perm pm
    have hv1 : ∃ ns, IntsAre (es1.toList.map (·.2)) ns ∧ ns.Perm (ks ++ [k]) := by
      have q := pm.map (·.2)
      rw [List.map_append] at q
      obtain ⟨n1, i1, p1⟩ := ints_perm q (ints_snoc k tk hi)
      exact ⟨n1, i1, p1.trans (hp.append_right [k])⟩
    have sz1 : es1.size = ks.length + 1 := by
      rw [← Array.length_toList, pm.length_eq, List.length_append, Array.length_toList, hlen]; rfl
    have hb1 : es1.size < scanBound := by rw [sz1]; exact hroom
    refine wpAny_bind (gw _ ?_)
    have tail : ∀ (t2 : SetTable), t2.fits es1.size = true → TOk t2 → (byTx w = true ∨ t2.led = true) → wpAny (model P w) A (do
        storeSet a es1 t2
        if (!wasDummy && t2.tooFull) = true then do
            (match (relayAll t2 es1 (SetTable.grown es1.size)).2.2 with | true => rule "set.scan.the-table-gave-way" | false => pure ())
            storeSet a (relayAll t2 es1 (SetTable.grown es1.size)).1 (relayAll t2 es1 (SetTable.grown es1.size)).2.1
            pure (some true)
          else pure (some true)) (fun r s1 => wpAny (model P w) A (match r with | some added => pure added | none => setAddHashedIn a (.int k tk) ((intKind P w).hash k) 99999) Q E s1) E s := by
      intro t2 f2 k2 l2
      refine wpAny_bind (wpAny_storeSet_of g gd ?_ (fits_of_scanBound hb1))
      obtain ⟨g1, S1⟩ := storeL (P := P) (w := w) g gx gd el1 hv1 hb1 f2 k2 l2
      have sb1 := Heap.SameBut.update s.heap a (Obj.putSet es1 t2)
      split
      · have pr := relayAll_perm t2 es1 (SetTable.grown es1.size)
        have fr := relayAll_fits t2 es1 (SetTable.grown es1.size)
        have tr := relayAll_ok (t := t2) es1 (SetTable.grown es1.size)
        generalize hR : relayAll t2 es1 (SetTable.grown es1.size) = R at pr fr tr ⊢
        obtain ⟨es2, t3, gave2⟩ := R
        dsimp only at pr fr tr ⊢
        have sz2 : es2.size = es1.size := by rw [← Array.length_toList, pr.length_eq, Array.length_toList]
        have hb2 : es2.size < scanBound := by rw [sz2]; exact hb1
        refine wpAny_bind (gw _ ?_)
        refine wpAny_bind (wpAny_storeSet_of g1 rfl ?_ (fits_of_scanBound hb2))
        have hv2 : ∃ ns, IntsAre (es2.toList.map (·.2)) ns ∧ ns.Perm (ks ++ [k]) := by
          obtain ⟨n1, i1, p1⟩ := hv1
          obtain ⟨n2, i2, p2⟩ := ints_perm (pr.map (·.2)) i1
          exact ⟨n2, i2, p2.trans p1⟩
        obtain ⟨_, S2⟩ := storeL (P := P) (w := w) g1 gx rfl (el1.perm pr) hv2 hb2 fr tr.1 (l2.imp id fun z => tr.2.trans z)
        exact wpAny_pure (wpAny_pure (h true _ (sb1.trans (Heap.SameBut.update _ a _)) S2))
      · exact wpAny_pure (wpAny_pure (h true _ sb1 S1))
    have l1 : byTx w = true ∨ t1.led = true := hl.imp id fun z => tm.2.trans z
    split
    · refine wpAny_bind ?_
      rw [hashByValue_scannable 8 (rfl : (Value.int k tk).scannable = true)]
      refine wpAny_pure ?_
      split
      · exact tail t1 fm tm.1 l1
      · exact tail { t1 with plain := false } (SetTable.fits_plain_off fm) tm.1 l1
    · refine wpAny_bind (wpAny_pure ?_)
      simp only [↓reduceIte]
      exact tail t1 fm tm.1 l1
end
end L2
set_option Elab.async false
set_option linter.all false
set_option maxRecDepth 100000
namespace L2
open PySem PySem.Spec PyProof.Rows
def firstL (f : Nat → Int) : Nat → List Int
  | 0 => []
  | i + 1 => if f i ∈ firstL f i then firstL f i else firstL f i ++ [f i]
theorem firstL_len (f : Nat → Int) : ∀ i, (firstL f i).length ≤ i
  | 0 => Nat.le_refl _
  | i + 1 => by
    have ih := firstL_len f i
    unfold firstL
    split
    · omega
    · rw [List.length_append]; show _ + 1 ≤ _; omega
theorem SetL.at {P : Program} {w : World} {h h' : Heap} {a : Addr} {ks : List Int} (x : SetL P w h a ks) (k : ∀ o, h.get? a = some o → h'.get? a = some o) : SetL P w h' a ks := by
  obtain ⟨o, es, ep, t, g, r⟩ := x
  exact ⟨o, es, ep, t, k o g, r⟩
section
variable {P : Program} {w : World} {A : Around} {R : Result → Shared → Prop} {I : Addr} {fp wr : List Addr} {G : Array GenState → Array GenState → Prop} {n : Nat} {Pv : Nat → Value → Prop} {St : Nat → Shared → Prop}
theorem loopL (W : WalksS P w A.in1 I fp wr G n Pv St) (d : Addr) (hd : d ∉ fp) (f : Nat → Int) (hf : ∀ i v, Pv i v → ∃ t, v = .int (f i) t) (hb : n + 1 < scanBound) : ∀ (k i : Nat) (s : Shared), n - i = k → i ≤ n → St i s → SetL P w s.heap d (firstL f i) →
      (∀ s', Moved (d :: wr) G s s' → SetL P w s'.heap d (firstL f n) → R (.ok (.ret .none)) s') → codeAny (model P w) A (.builtin "set.update.loop" ⟨[.ref d, .ref I], []⟩) R s := by
  have hw : d ∉ wr := fun z => hd (W.sub _ z)
  have up : ∀ b ∈ wr, b ∈ d :: wr := fun b z => List.mem_cons_of_mem _ z
  intro k
  induction k with
  | zero =>
    intro i s hk hi st hS hR
    have e : i = n := by omega
    subst e
    refine codeAny_builtin F.entry_set_update_loop ?_
    rw [Around.under_plainId F.plain_set_update_loop _]
    show wpAny _ A.in1 (pyNext (.ref I) >>= _) _ _ _
    refine wpAny_bind (W.done s _ _ st fun s' m => ?_)
    show wpAny _ A.in1 (ret Value.none) _ _ _
    exact wpAny_pure (hR s' (m.mono up) (hS.at fun o g => m.heap d o hw g))
  | succ k ih =>
    intro i s hk hi st hS hR
    have hlt : i < n := by omega
    refine codeAny_builtin F.entry_set_update_loop ?_
    rw [Around.under_plainId F.plain_set_update_loop _]
    show wpAny _ A.in1 (pyNext (.ref I) >>= _) _ _ _
    refine wpAny_bind (W.item i s _ _ hlt st fun v s' hP st' m => ?_)
    obtain ⟨t, rfl⟩ := hf i v hP
    have hS' : SetL P w s'.heap d (firstL f i) := hS.at fun o g => m.heap d o hw g
    show wpAny _ A.in1 (holding [Value.int (f i) t] (setAdd d (.int (f i) t)) >>= _) _ _ _
    refine wpAny_bind (wpAny_holding ?_)
    unfold setAdd
    refine wpAny_holding ?_
    refine wpAny_bind ((intKind P w).pyHash (k := f i) (intKind_is _ _ _ _) ?_)
    have room : (firstL f i).length + 1 < scanBound := by have := firstL_len f i; omega
    refine addL (s := { s' with toks := s'.toks + 1 }) hS' room fun b h' sb S2 => ?_
    have S3 : SetL P w h' d (firstL f (i + 1)) := S2
    refine wpAny_pure ⟨plainId_quiet F.plain_set_update_loop _, ?_⟩
    refine ih (i + 1) _ (by omega) hlt (W.frame _ s' _ _ st' (Nat.le_succ _) fun b hb o g => ?_) S3 fun s2 m2 S4 => ?_
    · rw [sb.2 b (fun z : b = d => hd (by rw [← z]; exact hb))]; exact g
    · refine hR s2 (Moved.trans W.gtrans ((m.mono up).then_heap (Nat.le_succ _) fun b o hb g => ?_) m2) S4
      rw [sb.2 b (fun z : b = d => hb (by rw [z]; exact List.mem_cons_self))]; exact g
end
section
variable {P : Program} {w : World} {A : Around} {E : Value → Shared → Prop} {s : Shared}
theorem newL (v : Value) {Q1 : Value → Shared → Prop} (h : Q1 (.ref s.heap.objs.size) { s with heap := s.heap.push { cls := .type "set", dict := none, data := .set #[] 0 (.fresh 0 0 (!byTx w)) } }) :
    codeAny (model P w) A (.call (.builtin "set.__new__") ⟨[.type "set", v], []⟩) (wants Q1 E) s := by
  refine codeAny_of_tree ?_
  show wpAny _ A.in1 (do checkBuiltinCall "set.__new__" ⟨[.type "set", v], []⟩; again (.builtin "set.__new__" ⟨[.type "set", v], []⟩)) _ _ s
  refine wpAny_bind (wpAny_of_eq (F.newCall_set_1 v) (wpAny_pure ⟨plainId_quiet F.plain_set_new _, ?_⟩))
  refine codeAny_builtin F.entry_set_new ?_
  rw [Around.under_plainId F.plain_set_new _]
  unfold Builtin.«set.__new__» Builtin.Frozenset.newClass
  have hsub := sub_set_self
  obtain ⟨hp, g, d, tk, os⟩ := s
  dsimp only
  wp_walk
  refine wpAny_askSetting ?_
  refine wpAny_pure ?_
  dsimp only
  simp only [newObj]
  refine wpAny_bind (wpAny_alloc ?_)
  exact wpAny_pure (wpAny_pure h)
theorem SetL.new {h : Heap} {a : Addr} (g : h.get? a = some { cls := .type "set", dict := none, data := .set #[] 0 (.fresh 0 0 (!byTx w)) }) : SetL P w h a [] := by
  refine ⟨_, #[], 0, _, g, ⟨rfl, rfl, rfl⟩, rfl, fun e he => by simp at he, ⟨[], .nil, List.Perm.refl _⟩, by decide, rfl, ⟨fun i j x y _ hx => by simp [SetTable.fresh] at hx, rfl⟩, ?_⟩
  cases byTx w
  · exact .inr rfl
  · exact .inl rfl
set_option maxHeartbeats 6400000 in
theorem call_setL {l : Addr} {its : Array Value} {ns : List Int} {Q : Value → Shared → Prop} (hh : A.handled = none) (hl : s.heap.IsList l its) (hi : IntsAre its.toList ns) (hb : its.size + 1 < scanBound)
    (k : ∀ (h' : Heap) (tk : Nat), SetL P w h' s.heap.objs.size (firstL (fun i => ns.getD i 0) its.size) → (∀ b o, b < s.heap.objs.size → s.heap.get? b = some o → h'.get? b = some o) → Q (.ref s.heap.objs.size) { s with heap := h', toks := tk }) :
    wpAny (model P w) A (call (.type "set") [.ref l]) Q E s := by
  obtain ⟨c0, tl0, c1⟩ := F.called_set.mro
  have c2 := F.called_set.made
  have c3 := F.called_set.sub
  refine wpAny_call (codeAny_of_tree ?_)
  show wpAny _ _ (callAny (.type "set") _) _ _ s
  refine wpAny_pure ⟨?_, ?_⟩
  · exact Code.quiet_builtin _ (by decide +kernel)
  refine codeAny_builtin F.entry_type_call ?_
  rw [Around.under_plain (weight_type_call_type "set" [.ref l] []) rfl]
  have c4 := F.called_set.notType
  have c5 := F.called_set.canCreate
  have c6 := F.typeCall_set_1 (.ref l)
  repeat (any_goals first | assumption | wp_step)
  refine codeAny_mono (newL (.ref l) (E := E) (Q1 := fun v s1 => v = .ref s.heap.objs.size ∧ s1 = { s with heap := s.heap.push { cls := .type "set", dict := none, data := .set #[] 0 (.fresh 0 0 (!byTx w)) } }) ⟨rfl, rfl⟩) fun r s1 hr => ?_
  cases r with
  | error e => exact hr
  | ok fl =>
    cases fl with
    | ret v =>
      obtain ⟨rfl, rfl⟩ := hr
      have g1 : (s.heap.push { cls := .type "set", dict := none, data := .set #[] 0 (.fresh 0 0 (!byTx w)) }).get? s.heap.objs.size = some { cls := .type "set", dict := none, data := .set #[] 0 (.fresh 0 0 (!byTx w)) } := Heap.get?_push_size _ rfl
      have c7 : Shared.TypeIs { s with heap := s.heap.push { cls := .type "set", dict := none, data := .set #[] 0 (.fresh 0 0 (!byTx w)) } } (.ref s.heap.objs.size) "set" := ⟨_, g1, rfl⟩
      have c8 := F.called_set.init.lookup
      have c9 := F.called_set.init.bind (.ref s.heap.objs.size)
      repeat (any_goals first | assumption | wp_step)
      refine codeAny_mono (codeAny_call_builtin (R := wants (fun r s2 => r = .none ∧ ∃ h' tk, s2 = { s with heap := h', toks := tk } ∧ SetL P w h' s.heap.objs.size (firstL (fun i => ns.getD i 0) its.size) ∧
          (∀ b o, b < s.heap.objs.size → s.heap.get? b = some o → h'.get? b = some o)) E) F.called_set.init.plain F.entry_set_init (check_set_init_1 c7 ?_)) fun r2 s2 hr2 => ?_
      · obtain ⟨ol, gl, cl, nl, dl⟩ := hl
        obtain ⟨qc, qd, qa, qs⟩ := ol
        simp only at cl dl
        subst cl
        subst dl
        have gl' : (s.heap.push { cls := .type "set", dict := none, data := .set #[] 0 (.fresh 0 0 (!byTx w)) }).get? l = some { cls := .type "list", dict := qd, data := .seq its nl, slots := qs } := Heap.get?_push_of_some _ gl
        have d1 := F.sub_list_set
        have d2 := F.sub_list_frozenset
        have d3 : (Value.type "list" == Value.type "dict") = false := by decide
        have hl1 : (s.heap.push { cls := .type "set", dict := none, data := .set #[] 0 (.fresh 0 0 (!byTx w)) }).IsList l its := ⟨_, gl', rfl, nl, rfl⟩
        unfold Builtin.«set.__init__» noKeywords Builtin.Frozenset.updateFrom
        generalize hPI : pyIter = PI
        wp_walk
        subst hPI
        refine wpAny_pyIter_list hl1 ?_
        refine wpAny_bind (wpAny_runValue ?_)
        have lt : l < s.heap.objs.size := Heap.lt_size gl
        have h3 : A.in1.in1.in1.handled = none := by simp [hh]
        have nI : l ≠ (s.heap.push { cls := .type "set", dict := none, data := .set #[] 0 (.fresh 0 0 (!byTx w)) }).objs.size := by
          rw [Heap.size_push]; exact Nat.ne_of_lt (Nat.lt_succ_of_lt lt)
        have nf : s.heap.objs.size ∉ [(s.heap.push { cls := .type "set", dict := none, data := .set #[] 0 (.fresh 0 0 (!byTx w)) }).objs.size, l] := by
          rw [Heap.size_push]; simp only [List.mem_cons, List.mem_singleton, List.not_mem_nil, or_false, not_or]
          exact ⟨Nat.ne_of_lt (Nat.lt_succ_self _), Nat.ne_of_gt lt⟩
        have hv : ∀ (i : Nat) (v : Value), its[i]? = some v → ∃ t, v = .int ((fun i => ns.getD i 0) i) t := fun i v z => PyProof.Rows.IntsAre.int_at hi i v (by rw [Array.getElem?_toList]; exact z)
        refine loopL ((Walks.list h3 _ l nI its).toS) s.heap.objs.size nf (fun i => ns.getD i 0) hv hb (its.size - 0) 0 _ (by omega) (Nat.zero_le _) ⟨⟨_, Heap.get?_push_size _ rfl, rfl, rfl⟩, (hl1.push _)⟩ ?S0 ?R0
        case S0 => exact SetL.new (Heap.get?_push_of_some _ g1)
        case R0 =>
          intro s' m S'
          obtain ⟨h', g', d', tk', os'⟩ := s'
          have eg : g' = s.gens := m.gens
          have ed : d' = s.drawn := m.drawn
          have eo : os' = s.os := m.os
          subst eg
          subst ed
          subst eo
          show wpAny _ _ _ _ _ _
          refine wpAny_pure ?_
          show wpAny _ _ (ret Value.none) _ _ _
          refine wpAny_pure ⟨rfl, h', tk', rfl, S', fun b o lb g => ?_⟩
          have b1 : b ≠ s.heap.objs.size := Nat.ne_of_lt lb
          have b2 : b ≠ (s.heap.push { cls := .type "set", dict := none, data := .set #[] 0 (.fresh 0 0 (!byTx w)) }).objs.size := by
            rw [Heap.size_push]; exact Nat.ne_of_lt (Nat.lt_succ_of_lt lb)
          exact m.heap b o (by simp only [List.mem_cons, List.mem_singleton, List.not_mem_nil, or_false, not_or]; exact ⟨b1, b2⟩) (Heap.get?_push_of_some _ (Heap.get?_push_of_some _ g))
      · cases r2 with
        | error e => exact hr2
        | ok fl2 =>
          cases fl2 with
          | ret r =>
            obtain ⟨rfl, h', tk, rfl, S', kp⟩ := hr2
            repeat (any_goals first | assumption | wp_step)
            exact k _ _ S' kp
          | _ => exact hr2.elim
    | _ => exact hr.elim
end
end L2
set_option Elab.async false
set_option linter.all false
set_option maxRecDepth 100000
namespace L2
open PySem PySem.Spec PyProof.Rows
theorem slot_setit_next : Slot "set_iterator" "__next__" "set_iterator.__next__" :=
  .of (owner := "set_iterator") (n := "__next__") (by rw [typeLookup_type, builtinLookup_eq_fast]; kernel_rfl) (by decide +kernel) (by decide +kernel) (by decide +kernel) (by first | exact .inl (by decide +kernel) | exact .inr (by decide +kernel)) (by rw [isSubtype_type]; kernel_rfl)
theorem entry_setit_next : entryFor table "set_iterator.__next__" = some Builtin.«set_iterator.__next__» := entryFor_of_tree (by kernel_rfl)
theorem args_setit_next (v : Value) : argsOk "set_iterator.__next__" ⟨[v], []⟩ := by unfold argsOk; kernel_rfl
theorem entry_set_iterF : entryFor table "set.__iter__" = some Builtin.«frozenset.__iter__» :=
  entryFor_alias (id' := "frozenset.__iter__") (by kernel_rfl) (by first | rfl | decide +kernel | (unfold String.splitOn; simp +decide [String.splitOnAux])) (by decide +kernel) (by kernel_rfl)
end L2
set_option Elab.async false
set_option linter.all false
set_option maxRecDepth 100000
namespace L2
open PySem PySem.Spec PyProof.Rows
theorem wpAny_chooseO {M : Model} {A : Around} {E : Value → Shared → Prop} {s : Shared} {n : Nat} {Q : Nat → Shared → Prop} (hn : n ≠ 0) (h : ∀ i d, i < n → Q i { s with drawn := d }) : wpAny M A (choose .order n) Q E s :=
  fun Γ p hΓ => ⟨hn, h _ _ (Nat.mod_lt _ (Nat.pos_of_ne_zero hn))⟩
theorem perm_erase {α : Type} : ∀ (xs : List α) (i : Nat) (x : α), xs[i]? = some x → (x :: xs.eraseIdx i).Perm xs
  | [], i, x, h => by simp at h
  | a :: xs, 0, x, h => by
    have e : a = x := by simpa using h
    subst e
    exact List.Perm.refl _
  | a :: xs, i + 1, x, h => by
    have ih := perm_erase xs i x (by simpa using h)
    show (x :: a :: xs.eraseIdx i).Perm (a :: xs)
    exact (List.Perm.swap a x _).trans (ih.cons a)
theorem drawOrder_ok {α : Type} {M : Model} {A : Around} {E : Value → Shared → Prop} : ∀ (n : Nat) (xs : List α) (s : Shared) (Q : List α → Shared → Prop), xs.length = n → (∀ ys d, ys.Perm xs → Q ys { s with drawn := d }) → wpAny M A (drawOrder n xs) Q E s
  | 0, xs, s, Q, hl, h => by
    unfold drawOrder
    have e : xs = [] := List.length_eq_zero_iff.mp hl
    subst e
    exact wpAny_pure (h [] s.drawn (List.Perm.refl _))
  | n + 1, [], s, Q, hl, h => by simp at hl
  | n + 1, x :: xs, s, Q, hl, h => by
    unfold drawOrder
    refine wpAny_bind (wpAny_chooseO (by simp) fun i d hi => ?_)
    have hg : (x :: xs)[i]? = some (x :: xs)[i] := List.getElem?_eq_getElem hi
    rw [hg]
    dsimp only
    refine wpAny_bind (drawOrder_ok n _ _ _ (by rw [List.length_eraseIdx]; simp only [if_pos hi]; omega) fun ys d' hp => ?_)
    exact wpAny_pure (h _ d' ((hp.cons _).trans (perm_erase _ i _ hg)))
theorem pick_go {α : Type} (f : Nat → Nat) : ∀ (n k : Nat) (xs : List α) (out : Array α), xs.length = n → ∃ ys : List α, ys.Perm xs ∧ (pickOrder.go f n k xs out).toList = out.toList ++ ys
  | 0, k, xs, out, hl => ⟨[], by rw [List.length_eq_zero_iff.mp hl], by unfold pickOrder.go; simp⟩
  | n + 1, k, xs, out, hl => by
    have hlt : f k % xs.length < xs.length := Nat.mod_lt _ (by omega)
    have hg : xs[f k % xs.length]? = some xs[f k % xs.length] := List.getElem?_eq_getElem hlt
    unfold pickOrder.go
    rw [hg]
    dsimp only
    obtain ⟨ys, hp, e⟩ := pick_go f n (k + 1) (xs.eraseIdx (f k % xs.length)) (out.push xs[f k % xs.length]) (by rw [List.length_eraseIdx, if_pos hlt]; omega)
    refine ⟨xs[f k % xs.length] :: ys, (hp.cons _).trans (perm_erase _ _ _ hg), ?_⟩
    rw [e]
    simp
theorem pickOrder_perm {α : Type} (f : Nat → Nat) (xs : Array α) : (pickOrder f xs).toList.Perm xs.toList := by
  obtain ⟨ys, hp, e⟩ := pick_go f xs.size 0 xs.toList #[] (by simp)
  unfold pickOrder
  rw [e]
  simpa using hp
section
variable {P : Program} {w : World} {A : Around} {E : Value → Shared → Prop} {s : Shared} {a : Addr} {o : Obj} {es : Array (Int × Value)} {ep : Nat} {t : SetTable}
theorem next_text {Q : Option (Value × Nat) → Shared → Prop} {slot i : Nat} (hb : byTx w = true) (g : s.heap.get? a = some o) (gd : o.data = .set es ep t) (hf : t.fits es.size = true)
    (h : Q (((pickOrder (w.params.setOrder a ep) es).toList.map (·.2))[i]?.map fun v => (v, slot)) s) : wpAny (model P w) A (setNext a slot i ep) Q E s := by
  unfold setNext
  refine wpAny_bind (wpAny_setState_of g gd hf ?_)
  dsimp only
  unfold setsByText
  refine wpAny_bind (wpAny_bind (wpAny_askSetting (wpAny_pure ?_)))
  have hb' : w.params.followText "set-order" = true := hb
  show wpAny _ _ (if w.params.followText "set-order" = true then _ else _) _ _ _
  rw [if_pos hb', if_neg (by simp)]
  unfold setWalk
  refine wpAny_bind (wpAny_bind (wpAny_setState_of g gd hf ?_))
  dsimp only
  unfold setsByText
  refine wpAny_bind (wpAny_bind (wpAny_askSetting (wpAny_pure ?_)))
  show wpAny _ _ (if w.params.followText "set-order" = true then _ else _) _ _ _
  rw [if_pos hb']
  refine wpAny_bind (wpAny_askSetting (wpAny_pure ?_))
  refine wpAny_pure ?_
  rw [List.getElem?_map, Array.getElem?_toList, Option.map_map] at h
  exact h
theorem next_led {Q : Option (Value × Nat) → Shared → Prop} {slot i : Nat} (hb : byTx w = false) (g : s.heap.get? a = some o) (gd : o.data = .set es ep t) (hf : t.fits es.size = true) (hl : t.led = true) (hp : t.plain = true ∨ es.size ≤ 1)
    (h : Q (match es[SetTable.below t.place slot]?, t.place[SetTable.below t.place slot]? with | some (_, x), some j => some (x, j + 1) | _, _ => none) s) : wpAny (model P w) A (setNext a slot i ep) Q E s := by
  unfold setNext
  refine wpAny_bind (wpAny_setState_of g gd hf ?_)
  dsimp only
  unfold setsByText
  refine wpAny_bind (wpAny_bind (wpAny_askSetting (wpAny_pure ?_)))
  have hb' : w.params.followText "set-order" = false := hb
  show wpAny _ _ (if w.params.followText "set-order" = true then _ else _) _ _ _
  rw [if_neg (by rw [hb']; exact Bool.false_ne_true)]
  refine wpAny_ite_split (fun hd => ?_) fun _ => ?_
  · exfalso
    have hd' : (!t.plain && decide (es.size > 1)) = true := hd
    rw [Bool.and_eq_true, decide_eq_true_eq] at hd'
    rcases hp with hp | hp
    · rw [hp] at hd'; exact absurd hd'.1 (by decide)
    · omega
  · refine wpAny_bind ?_
    refine wpAny_ite_split (fun hd => ?_) fun _ => ?_
    · exfalso
      have hd' : (!t.led && !es.isEmpty) = true := hd
      rw [hl] at hd'
      exact absurd hd' (by simp)
    · exact wpAny_pure (wpAny_pure h)
end
end L2
set_option Elab.async false
set_option linter.all false
set_option maxRecDepth 100000
namespace L2
open PySem PySem.Spec PyProof.Rows
theorem slot_setit_iter : Slot "set_iterator" "__iter__" "set_iterator.__iter__" :=
  .of (owner := "set_iterator") (n := "__iter__") (by rw [typeLookup_type, builtinLookup_eq_fast]; kernel_rfl) (by decide +kernel) (by decide +kernel) (by decide +kernel) (by first | exact .inl (by decide +kernel) | exact .inr (by decide +kernel)) (by rw [isSubtype_type]; kernel_rfl)
theorem entry_setit_iter : entryFor table "set_iterator.__iter__" = some Builtin.«dict_keyiterator.__iter__» :=
  entryFor_alias (id' := "dict_keyiterator.__iter__") (by kernel_rfl) (by first | rfl | decide +kernel | (unfold String.splitOn; simp +decide [String.splitOnAux])) (by decide +kernel) (by kernel_rfl)
theorem args_setit_iter (v : Value) : argsOk "set_iterator.__iter__" ⟨[v], []⟩ := by unfold argsOk; kernel_rfl
def SI (h : Heap) (I : Addr) (f : Value) (i : Nat) (a : Addr) (n ep : Nat) : Prop := h.get? I = some { cls := .type "set_iterator", dict := none, data := .fields #[f, rawInt i, .ref a, rawInt n, rawInt ep], slots := #[] }
section
variable {P : Program} {w : World} {A : Around} {E : Value → Shared → Prop} {s : Shared}
theorem iter_self {I : Addr} {Q : Value → Shared → Prop} (hT : s.TypeIs (.ref I) "set_iterator") (h : Q (.ref I) s) : wpAny (model P w) A (pyIter (.ref I)) Q E s := by
  refine wpAny_pyIter_slot hT slot_setit_iter (wpAny_call_entry slot_setit_iter hT entry_setit_iter ?_ (args_setit_iter _))
  show wpAny _ _ (ret (.ref I)) _ _ s
  exact wpAny_pure ⟨_, rfl, "set_iterator", _, hT, slot_setit_next.lookup, h⟩
/-- what a walk is told at its end -/
theorem stop_raise {Q : Fin → Shared → Prop} (hh : A.handled = none) (h : ∀ h' e, (∀ b o, s.heap.get? b = some o → h'.get? b = some o) → (∃ o, h'.get? e = some o ∧ o.cls = .type "StopIteration") → E (.ref e) { s with heap := h' }) :
    wpAny (model P w) A (newExc (.type "StopIteration") [] >>= fun e => (raiseNew e : Sem Fin)) Q E s := by
  refine wpAny_bind ?_
  simp only [newExc, newTuple]
  refine wpAny_bind (wpAny_newObj_type ?_ (by size_fits))
  refine wpAny_bind (m := firstArgMember _ _) ?_
  refine wpAny_of_eq (a := Value.none) (by first | rfl | (simp only [firstArgMember]; rfl)) ?_
  refine wpAny_newObj_type ?_ (by size_fits)
  simp only [raiseNew]
  refine wpAny_bind (wpAny_handled ?_)
  rw [hh]
  refine wpAny_bind (wpAny_pure (wpAny_throw ?_))
  exact h _ _ (fun b o g => Heap.get?_push_of_some _ (Heap.get?_push_of_some _ g)) ⟨_, Heap.get?_push_size _ rfl, rfl⟩
theorem moved_of {h' : Heap} {I : Addr} (k : ∀ b o, b ≠ I → s.heap.get? b = some o → h'.get? b = some o) : Moved [I] (fun x y => y = x) s { s with heap := h' } :=
  ⟨fun b o hb g => k b o (fun z => hb (by rw [z]; exact List.mem_singleton.mpr rfl)) g, rfl, rfl, rfl, Nat.le_refl _⟩
theorem walkInt (hh : A.handled = none) {I a : Addr} {o : Obj} {es : Array (Int × Value)} {ep : Nat} {t : SetTable} (nI : a ≠ I) (gd : o.data = .set es ep t) (hf : t.fits es.size = true) (F : Nat → Nat) (vs : List Value) (hvs : vs.length = es.size)
    (hn : ∀ (B : Around) (D : Value → Shared → Prop) (s : Shared) (i : Nat) (Q : Option (Value × Nat) → Shared → Prop), s.heap.get? a = some o → i ≤ es.size → Q (vs[i]?.map fun v => (v, F (i + 1))) s → wpAny (model P w) B (setNext a (F i) i ep) Q D s) :
    WalksS P w A I [I, a] [I] (fun x y => y = x) es.size (fun i v => vs[i]? = some v) (fun i s => SI s.heap I (rawInt (F i)) i a es.size ep ∧ s.heap.get? a = some o) where
  sub := fun b hb => by rw [List.mem_singleton] at hb; rw [hb]; exact List.mem_cons_self ..
  grefl := fun _ => rfl
  gtrans := fun _ _ _ h1 h2 => h2.trans h1
  frame := fun i s h' tk st _ k => ⟨k I (by simp) _ st.1, k a (by simp) _ st.2⟩
  item := fun i s Q E hi st hQ => by
    obtain ⟨gI, ga⟩ := st
    have hT : s.TypeIs (.ref I) "set_iterator" := ⟨_, gI, rfl⟩
    have hv : vs[i]? = some vs[i] := List.getElem?_eq_getElem (by omega)
    unfold pyNext
    refine wpAny_bind (wpAny_attempt (wpAny_callSpecial?_slot (name := Str.ofString "__next__") hT slot_setit_next (wpAny_call_entry slot_setit_next hT entry_setit_next ?_ (args_setit_next _))))
    show wpAny _ _ (fieldsOf (.ref I) >>= _) _ _ s
    refine wpAny_bind (wpAny_fieldsOf gI rfl ?_)
    show wpAny _ _ (setEntries a >>= _) _ _ s
    refine wpAny_bind (wpAny_setEntries_of ga gd hf ?_)
    rw [if_neg (by simp)]
    show wpAny _ _ (setNext a (F i) i ep >>= _) _ _ s
    refine wpAny_bind (hn _ _ s i _ ga (by omega) ?_)
    rw [hv]
    show wpAny _ _ (setField (.ref I) 0 (rawInt (F (i + 1))) >>= _) _ _ s
    refine wpAny_bind (wpAny_setField_rec gI (by simp) fun m1 g1 e1 => ?_)
    refine wpAny_bind (wpAny_setField_rec g1 (by simp) fun m2 g2 e2 => ?_)
    refine wpAny_pure ⟨_, rfl, wpAny_pure (hQ _ _ hv ⟨?_, ?_⟩ (moved_of fun b ob hb g => (e2.extBut _ _ hb (e1.extBut _ _ hb g))))⟩
    · exact g2
    · exact e2.extBut _ _ nI (e1.extBut _ _ nI ga)
  done := fun s Q E st hQ => by
    obtain ⟨gI, ga⟩ := st
    have hT : s.TypeIs (.ref I) "set_iterator" := ⟨_, gI, rfl⟩
    have hv : vs[es.size]? = none := List.getElem?_eq_none (by omega)
    unfold pyNext
    refine wpAny_bind (wpAny_attempt (wpAny_callSpecial?_slot (name := Str.ofString "__next__") hT slot_setit_next (wpAny_call_entry slot_setit_next hT entry_setit_next ?_ (args_setit_next _))))
    show wpAny _ _ (fieldsOf (.ref I) >>= _) _ _ s
    refine wpAny_bind (wpAny_fieldsOf gI rfl ?_)
    show wpAny _ _ (setEntries a >>= _) _ _ s
    refine wpAny_bind (wpAny_setEntries_of ga gd hf ?_)
    rw [if_neg (by simp)]
    show wpAny _ _ (setNext a (F es.size) es.size ep >>= _) _ _ s
    refine wpAny_bind (hn _ _ s es.size _ ga (Nat.le_refl _) ?_)
    rw [hv]
    show wpAny _ _ (setField (.ref I) 2 Value.none >>= _) _ _ s
    refine wpAny_bind (wpAny_setField_rec gI (by simp) fun m1 g1 e1 => ?_)
    refine stop_raise (by first | exact hh | simpa using hh) fun m2 e kp he => ?_
    obtain ⟨ob, go, gc⟩ := he
    refine wpAny_bind (wpAny_isInstance (T := "StopIteration") (b := true) ⟨ob, go, gc⟩ isSubtype_stop ?_)
    exact wpAny_pure (hQ _ (moved_of fun b ob hb g => kp b ob (e1.extBut _ _ hb g)))
  self := fun i s Q E st hQ => by
    obtain ⟨gI, ga⟩ := st
    exact iter_self ⟨_, gI, rfl⟩ hQ
theorem walkDrawn (hh : A.handled = none) {I a T : Addr} {o : Obj} {es : Array (Int × Value)} {ep : Nat} {t : SetTable} (nI : a ≠ I) (nT : T ≠ I) (gd : o.data = .set es ep t) (hf : t.fits es.size = true) (ps : List Nat) (hps : ps.length = es.size) (hlt : ∀ p ∈ ps, p < es.size) (vs : List Value) (hvs : vs = ps.map fun p => (es.getD p (0, .none)).2) :
    WalksS P w A I [I, a, T] [I] (fun x y => y = x) es.size (fun i v => vs[i]? = some v) (fun i s => SI s.heap I (.ref T) i a es.size ep ∧ s.heap.get? a = some o ∧ s.heap.get? T = some { cls := .type "tuple", data := .seq (ps.map fun (p : Nat) => rawInt p).toArray }) where
  sub := fun b hb => by rw [List.mem_singleton] at hb; rw [hb]; exact List.mem_cons_self ..
  grefl := fun _ => rfl
  gtrans := fun _ _ _ h1 h2 => h2.trans h1
  frame := fun i s h' tk st _ k => ⟨k I (by simp) _ st.1, k a (by simp) _ st.2.1, k T (by simp) _ st.2.2⟩
  item := fun i s Q E hi st hQ => by
    obtain ⟨gI, ga, gT⟩ := st
    have hT : s.TypeIs (.ref I) "set_iterator" := ⟨_, gI, rfl⟩
    have hp : ps[i]? = some ps[i] := List.getElem?_eq_getElem (by omega)
    have hpl : ps[i] < es.size := hlt _ (List.getElem_mem _)
    have he : es[ps[i]]? = some es[ps[i]] := Array.getElem?_eq_getElem hpl
    have hv : vs[i]? = some (es[ps[i]]).2 := by
      rw [hvs, List.getElem?_map, hp, Option.map_some, Array.getD_eq_getD_getElem?, he]
      rfl
    have hpi : (ps.map fun (p : Nat) => rawInt p).toArray[i]? = some (rawInt ps[i]) := by
      rw [List.getElem?_toArray, List.getElem?_map, hp]; rfl
    unfold pyNext
    refine wpAny_bind (wpAny_attempt (wpAny_callSpecial?_slot (name := Str.ofString "__next__") hT slot_setit_next (wpAny_call_entry slot_setit_next hT entry_setit_next ?_ (args_setit_next _))))
    show wpAny _ _ (fieldsOf (.ref I) >>= _) _ _ s
    refine wpAny_bind (wpAny_fieldsOf gI rfl ?_)
    show wpAny _ _ (setEntries a >>= _) _ _ s
    refine wpAny_bind (wpAny_setEntries_of ga gd hf ?_)
    rw [if_neg (by simp)]
    show wpAny _ _ (seqItems? (.ref T) >>= _) _ _ s
    refine wpAny_bind (wpAny_seqItems gT rfl ?_)
    dsimp only
    rw [show ((i : Int)).toNat = i from rfl, hpi]
    show wpAny _ _ (setNextDrawn a ps[i] ep >>= _) _ _ s
    unfold setNextDrawn
    refine wpAny_bind (wpAny_bind (wpAny_setState_of ga gd hf ?_))
    dsimp only
    rw [if_neg (by simp), he]
    refine wpAny_pure ?_
    show wpAny _ _ (setField (.ref I) 1 (rawInt (i + 1)) >>= _) _ _ s
    refine wpAny_bind (wpAny_setField_rec gI (by simp) fun m1 g1 e1 => ?_)
    refine wpAny_pure ⟨_, rfl, wpAny_pure (hQ _ _ hv ⟨?_, ?_, ?_⟩ (moved_of fun b ob hb g => e1.extBut _ _ hb g))⟩
    · exact g1
    · exact e1.extBut _ _ nI ga
    · exact e1.extBut _ _ nT gT
  done := fun s Q E st hQ => by
    obtain ⟨gI, ga, gT⟩ := st
    have hT : s.TypeIs (.ref I) "set_iterator" := ⟨_, gI, rfl⟩
    have hpi : (ps.map fun (p : Nat) => rawInt p).toArray[es.size]? = none := by
      rw [List.getElem?_toArray]; exact List.getElem?_eq_none (by rw [List.length_map]; omega)
    unfold pyNext
    refine wpAny_bind (wpAny_attempt (wpAny_callSpecial?_slot (name := Str.ofString "__next__") hT slot_setit_next (wpAny_call_entry slot_setit_next hT entry_setit_next ?_ (args_setit_next _))))
    show wpAny _ _ (fieldsOf (.ref I) >>= _) _ _ s
    refine wpAny_bind (wpAny_fieldsOf gI rfl ?_)
    show wpAny _ _ (setEntries a >>= _) _ _ s
    refine wpAny_bind (wpAny_setEntries_of ga gd hf ?_)
    rw [if_neg (by simp)]
    show wpAny _ _ (seqItems? (.ref T) >>= _) _ _ s
    refine wpAny_bind (wpAny_seqItems gT rfl ?_)
    dsimp only
    rw [show ((es.size : Int)).toNat = es.size from rfl, hpi]
    show wpAny _ _ (setField (.ref I) 0 (rawInt 0) >>= _) _ _ s
    refine wpAny_bind (wpAny_setField_rec gI (by simp) fun m0 g0 e0 => ?_)
    refine wpAny_bind (wpAny_setField_rec g0 (by simp) fun m1 g1 e1 => ?_)
    refine stop_raise (by first | exact hh | simpa using hh) fun m2 e kp he => ?_
    obtain ⟨ob, go, gc⟩ := he
    refine wpAny_bind (wpAny_isInstance (T := "StopIteration") (b := true) ⟨ob, go, gc⟩ isSubtype_stop ?_)
    exact wpAny_pure (hQ _ (moved_of fun b ob hb g => kp b ob (e1.extBut _ _ hb (e0.extBut _ _ hb g))))
  self := fun i s Q E st hQ => by
    obtain ⟨gI, ga, gT⟩ := st
    exact iter_self ⟨_, gI, rfl⟩ hQ
end
end L2
set_option Elab.async false
set_option linter.all false
set_option maxRecDepth 100000
namespace L2
open PySem PySem.Spec PyProof.Rows
theorem fits_size {t : SetTable} {n : Nat} (h : t.fits n = true) : t.place.size = n := by
  unfold SetTable.fits at h
  rw [Bool.and_eq_true, beq_iff_eq] at h
  exact h.1
def slotAt (t : SetTable) (i : Nat) : Nat := if i = 0 then 0 else t.place.getD (i - 1) 0 + 1
theorem slotAt_below {t : SetTable} (hs : Srt t.place) {i : Nat} (hi : i ≤ t.place.size) : SetTable.below t.place (slotAt t i) = i := by
  by_cases h0 : i = 0
  · subst h0
    exact below_at hs (Nat.zero_le _) (fun k x hk => absurd hk (Nat.not_lt_zero _)) fun k x _ _ => Nat.zero_le _
  · have hlt : i - 1 < t.place.size := by omega
    have hg : t.place[i - 1]? = some (t.place.getD (i - 1) 0) := by
      rw [Array.getD_eq_getD_getElem?, Array.getElem?_eq_getElem hlt]; rfl
    have e : slotAt t i = t.place.getD (i - 1) 0 + 1 := by unfold slotAt; rw [if_neg h0]
    rw [e]
    refine below_at hs hi (fun k x hk hx => ?_) fun k x hk hx => ?_
    · by_cases hk2 : k = i - 1
      · subst hk2; rw [hg] at hx; cases hx; omega
      · have := hs k (i - 1) x _ (by omega) hx hg; omega
    · have := hs (i - 1) k _ x (by omega) hg hx; omega
section
variable {P : Program} {w : World} {A : Around} {E : Value → Shared → Prop} {s : Shared} {a : Addr} {ks : List Int}
def WalkOf (P : Program) (w : World) (s : Shared) (a : Addr) (ks : List Int) (I : Addr) (h' : Heap) (d : Drawn) : Prop :=
  ∃ (n : Nat) (fp : List Addr) (vs : List Value) (ns : List Int) (St : Nat → Shared → Prop), n = ks.length ∧ (∀ B : Around, B.handled = none → WalksS P w B I fp [I] (fun x y => y = x) n (fun i v => vs[i]? = some v) St) ∧ St 0 { s with heap := h', drawn := d } ∧
    s.heap.objs.size ≤ I ∧ (∀ b ∈ fp, b = a ∨ s.heap.objs.size ≤ b) ∧ (∀ b o, s.heap.get? b = some o → h'.get? b = some o) ∧ IntsAre vs ns ∧ ns.Perm ks
theorem iterL {Q : Value → Shared → Prop} (hS : SetL P w s.heap a ks) (k : ∀ I h' d, WalkOf P w s a ks I h' d → Q (.ref I) { s with heap := h', drawn := d }) : wpAny (model P w) A (pyIter (.ref a)) Q E s := by
  obtain ⟨o, es, ep, t, g, gx, gd, el, ⟨ns, hi, hp⟩, hb, hf, ht, hl⟩ := hS
  have hT : s.TypeIs (.ref a) "set" := ⟨o, g, gx.1⟩
  have hlen : es.size = ks.length := by
    have h1 := IntsAre.length hi
    rw [List.length_map, Array.length_toList] at h1
    rw [h1, hp.length_eq]
  have hpl : t.place.size = es.size := fits_size hf
  have ha : a < s.heap.objs.size := Heap.lt_size g
  refine wpAny_pyIter_slot hT F.slot_set_iter (wpAny_call_entry F.slot_set_iter hT entry_set_iterF ?_ (F.args_set_iter_1 _))
  show wpAny _ _ (Builtin.Frozenset.sizeOf a >>= _) _ _ s
  refine wpAny_bind ?_
  unfold Builtin.Frozenset.sizeOf
  refine wpAny_bind (wpAny_setEntries_of g gd hf ?_)
  refine wpAny_pure ?_
  refine wpAny_bind ?_
  refine wpAny_bind ?_
  refine wpAny_setState_of g gd hf ?_
  dsimp only
  unfold setsByText
  refine wpAny_bind (wpAny_bind (wpAny_askSetting (wpAny_pure ?_)))
  refine wpAny_pure ?_
  dsimp only
  refine wpAny_ite_split (fun hd => ?_) fun hd => ?_
  · refine wpAny_bind (drawOrder_ok es.size (List.range es.size) s _ (by simp) fun ps d pp => ?_)
    have hpsl : ps.length = es.size := by rw [pp.length_eq, List.length_range]
    refine wpAny_bind (wpAny_newTuple ?_ (by rw [List.length_map, hpsl]; exact fits_of_scanBound hb))
    have gT : (s.heap.push { cls := .type "tuple", data := .seq (ps.map fun (p : Nat) => rawInt p).toArray }).get? s.heap.objs.size = some { cls := .type "tuple", data := .seq (ps.map fun (p : Nat) => rawInt p).toArray } := Heap.get?_push_size _ rfl
    have ga : (s.heap.push { cls := .type "tuple", data := .seq (ps.map fun (p : Nat) => rawInt p).toArray }).get? a = some o := Heap.get?_push_of_some _ g
    refine wpAny_bind (wpAny_setEpoch_of (s := { s with heap := s.heap.push { cls := .type "tuple", data := .seq (ps.map fun (p : Nat) => rawInt p).toArray }, drawn := d }) ga gd hf ?_)
    refine wpAny_bind (wpAny_newObj_type ?_ (by size_fits))
    have z1 : (s.heap.push { cls := .type "tuple", data := .seq (ps.map fun (p : Nat) => rawInt p).toArray }).objs.size = s.heap.objs.size + 1 := Heap.size_push ..
    have hvp : (ps.map fun p => (es.getD p (0, .none)).2).Perm (es.toList.map (·.2)) := by
      refine (pp.map _).trans (List.Perm.of_eq ?_)
      refine List.ext_getElem (by simp) fun i h1 h2 => ?_
      have hi : i < es.size := by simpa using h2
      rw [List.getElem_map, List.getElem_map, List.getElem_range, Array.getElem_toList]
      show (es.getD i (0, .none)).2 = (es[i]).2
      rw [Array.getD_eq_getD_getElem?, Array.getElem?_eq_getElem hi]
      rfl
    obtain ⟨n2, i2, p2⟩ := ints_perm hvp hi
    have nI : a ≠ (s.heap.push { cls := .type "tuple", data := .seq (ps.map fun (p : Nat) => rawInt p).toArray }).objs.size := by rw [z1]; exact neN (.inl (Nat.lt_succ_of_lt ha))
    have nT : s.heap.objs.size ≠ (s.heap.push { cls := .type "tuple", data := .seq (ps.map fun (p : Nat) => rawInt p).toArray }).objs.size := by rw [z1]; exact neN (.inl (Nat.lt_succ_self _))
    refine wpAny_pure ⟨_, rfl, "set_iterator", _, ⟨_, Heap.get?_push_size _ rfl, rfl⟩, slot_setit_next.lookup, k _ _ d ?_⟩
    refine ⟨es.size, _, _, n2, _, hlen, fun B hB => walkDrawn hB nI nT gd hf ps hpsl (fun p hp => List.mem_range.mp (pp.mem_iff.mp hp)) _ rfl, ⟨Heap.get?_push_size _ rfl, Heap.get?_push_of_some _ ga, Heap.get?_push_of_some _ gT⟩, by rw [z1]; exact Nat.le_succ _, fun b hb => ?_, fun b ob gb => Heap.get?_push_of_some _ (Heap.get?_push_of_some _ gb), i2, p2.trans hp⟩
    have hb' : b = (s.heap.push { cls := .type "tuple", data := .seq (ps.map fun (p : Nat) => rawInt p).toArray }).objs.size ∨ b = a ∨ b = s.heap.objs.size := by simpa using hb
    rcases hb' with rfl | rfl | rfl
    · exact .inr (by rw [z1]; exact Nat.le_succ _)
    · exact .inl rfl
    · exact .inr (Nat.le_refl _)
  · refine wpAny_bind (wpAny_pure ?_)
    refine wpAny_bind (wpAny_setEpoch_of g gd hf ?_)
    refine wpAny_bind (wpAny_newObj_type ?_ (by size_fits))
    have nI : a ≠ s.heap.objs.size := neN (.inl ha)
    have es0 : s = { s with drawn := s.drawn } := by cases s; rfl
    have fpk : ∀ b ∈ [s.heap.objs.size, a], b = a ∨ s.heap.objs.size ≤ b := fun b hb => by
      have hb' : b = s.heap.objs.size ∨ b = a := by simpa using hb
      rcases hb' with rfl | rfl
      · exact .inr (Nat.le_refl _)
      · exact .inl rfl
    refine wpAny_pure ⟨_, rfl, "set_iterator", _, ⟨_, Heap.get?_push_size _ rfl, rfl⟩, slot_setit_next.lookup, ?_⟩
    have key : WalkOf P w s a ks s.heap.objs.size (s.heap.push { cls := .type "set_iterator", data := .fields #[rawInt 0, rawInt 0, .ref a, rawInt es.size, rawInt ep] }) s.drawn := by
      by_cases hbt : byTx w = true
      · have hvp : ((pickOrder (w.params.setOrder a ep) es).toList.map (·.2)).Perm (es.toList.map (·.2)) := (pickOrder_perm _ es).map _
        obtain ⟨n2, i2, p2⟩ := ints_perm hvp hi
        refine ⟨es.size, _, (pickOrder (w.params.setOrder a ep) es).toList.map (·.2), n2, _, hlen, fun B hB => walkInt hB nI gd hf (fun _ => 0) _ (by rw [hvp.length_eq, List.length_map, Array.length_toList]) fun C D s i Q g1 hi1 q => next_text hbt g1 gd hf q, ⟨Heap.get?_push_size _ rfl, Heap.get?_push_of_some _ g⟩, Nat.le_refl _, fpk, fun b ob gb => Heap.get?_push_of_some _ gb, i2, p2.trans hp⟩
      · have hbf : byTx w = false := eq_false_of_ne_true hbt
        have hled : t.led = true := hl.resolve_left hbt
        have hpz : t.plain = true ∨ es.size ≤ 1 := by
          have hd' : ¬ ((!byTx w && (!t.plain && decide (es.size > 1))) = true) := hd
          rw [hbf] at hd'
          cases hq : t.plain with
          | true => exact .inl rfl
          | false =>
            right
            rw [hq] at hd'
            simpa using hd'
        refine ⟨es.size, _, es.toList.map (·.2), ns, _, hlen, fun B hB => walkInt hB nI gd hf (slotAt t) _ (by rw [List.length_map, Array.length_toList]) fun C D s i Q g1 hi1 q => next_led hbf g1 gd hf hled hpz ?_, ⟨Heap.get?_push_size _ rfl, Heap.get?_push_of_some _ g⟩, Nat.le_refl _, fpk, fun b ob gb => Heap.get?_push_of_some _ gb, hi, hp⟩
        rw [slotAt_below ht.1 (by omega)]
        by_cases hlt : i < es.size
        · have e1 : es[i]? = some es[i] := Array.getElem?_eq_getElem hlt
          have e2 : t.place[i]? = some (t.place.getD i 0) := by
            rw [Array.getD_eq_getD_getElem?, Array.getElem?_eq_getElem (by omega)]; rfl
          rw [List.getElem?_map, Array.getElem?_toList, e1] at q
          rw [e1, e2]
          exact q
        · have e1 : es[i]? = none := Array.getElem?_eq_none (by omega)
          rw [List.getElem?_map, Array.getElem?_toList, e1] at q
          rw [e1]
          exact q
    have z := k _ _ _ key
    exact z
end
end L2
set_option Elab.async false
set_option linter.all false
set_option maxRecDepth 100000
namespace L2
open PySem PySem.Spec PyProof.Rows
theorem len_set : typeLookup (.type "set") "__len__" = pure (some (.builtin "set.__len__")) := by rw [typeLookup_type, builtinLookup_eq_fast]; kernel_rfl
section
variable {P : Program} {w : World} {A : Around} {E : Value → Shared → Prop} {s : Shared} {a : Addr} {ks : List Int}
theorem collectL {Q : List Value → Shared → Prop} (hh : A.handled = none) (hS : SetL P w s.heap a ks) (hz : ks.length ≤ 4000)
    (k : ∀ vs ns h' d tk, IntsAre vs ns → ns.Perm ks → s.heap.objs.size < h'.objs.size → (∀ b o, s.heap.get? b = some o → h'.get? b = some o) → Q vs { s with heap := h', drawn := d, toks := tk }) : wpAny (model P w) A (collect (.ref a)) Q E s := by
  have hT : s.TypeIs (.ref a) "set" := by
    obtain ⟨o, es, ep, t, g, gx, _⟩ := hS
    exact ⟨o, g, gx.1⟩
  have ha : a < s.heap.objs.size := by
    obtain ⟨o, es, ep, t, g, gx, _⟩ := hS
    exact Heap.lt_size g
  unfold collect
  refine wpAny_bind (wpAny_runValue (codeAny_builtin F.entry_proto_collect ?_))
  rw [Around.under_plainId F.plain_proto_collect _]
  show wpAny _ A.in1 (newList [] >>= fun l => again (.builtin "list.__iadd__" ⟨[l, .ref a], []⟩)) _ _ s
  refine wpAny_bind (wpAny_newObj_type ?_)
  refine wpAny_pure ⟨plainId_quiet F.plain_list_iadd _, ?_⟩
  refine codeAny_builtin F.entry_list_iadd ?_
  rw [Around.under_plainId F.plain_list_iadd _]
  show wpAny _ A.in1 (Builtin.List.listExtendWith (.ref s.heap.objs.size) (.ref a) (.ref s.heap.objs.size)) _ _ _
  generalize hH : s.heap.push { cls := .type "list", data := .seq ([] : List Value).toArray } = H1
  have g0 : H1.get? s.heap.objs.size = some { cls := .type "list", data := .seq ([] : List Value).toArray } := by rw [← hH]; exact Heap.get?_push_size _ rfl
  have z1 : H1.objs.size = s.heap.objs.size + 1 := by rw [← hH]; exact Heap.size_push ..
  have kp1 : ∀ b o, s.heap.get? b = some o → H1.get? b = some o := fun b o g => by rw [← hH]; exact Heap.get?_push_of_some _ g
  have hS1 : SetL P w H1 a ks := hS.at fun o g => kp1 a o g
  have hT1 : Shared.TypeIs { s with heap := H1 } (.ref a) "set" := by
    obtain ⟨o, es, ep, t, g, gx, _⟩ := hS1
    exact ⟨o, g, gx.1⟩
  unfold Builtin.List.listExtendWith
  refine wpAny_bind (wpAny_typeOf hT1 ?_)
  have n1 : Builtin.List.listSameRef (.ref s.heap.objs.size) (.ref a) = false := by
    have : s.heap.objs.size ≠ a := neN (.inr ha)
    simp [Builtin.List.listSameRef, this]
  rw [if_neg (by rw [n1]; decide)]
  refine wpAny_bind (iterL (s := { s with heap := H1 }) hS1 fun I h' d W => ?_)
  refine wpAny_bind (wpAny_holding ?_)
  have hT2 : Shared.TypeIs { s with heap := h', drawn := d } (.ref a) "set" := by
    obtain ⟨n, fp, vs, ns, St, e, W1, st, lI, fpk, kp, i2, p2⟩ := W
    obtain ⟨o, g, c⟩ := hT1
    exact ⟨o, kp _ _ g, c⟩
  unfold Builtin.List.listLengthHint
  refine wpAny_bind (wpAny_specialOf hT2 len_set ?_)
  wp_delta
  refine wpAny_bind (wpAny_isInstance (T := "set") (b := true) hT2 (by rw [isSubtype_type]; kernel_rfl) ?_)
  show wpAny _ A.in1 (typeOf (Value.ref a) >>= _) _ _ _
  refine wpAny_bind (wpAny_typeOf hT2 ?_)
  refine wpAny_pure ?_
  rw [if_pos (by decide)]
  refine wpAny_bind (wpAny_rule ?_)
  obtain ⟨n, fp, vs, ns, St, en, W1, st, lI, fpk, kp, i2, p2⟩ := W
  have lI' : s.heap.objs.size + 1 ≤ I := by rw [← z1]; exact lI
  have hd : s.heap.objs.size ∉ fp := fun hm => by
    rcases fpk _ hm with z | z
    · exact absurd ha (by rw [← z]; exact Nat.lt_irrefl _)
    · have z' : s.heap.objs.size + 1 ≤ s.heap.objs.size := by rw [← z1]; exact z
      exact absurd z' (Nat.not_succ_le_self _)
  have gS : h'.get? s.heap.objs.size = some { cls := .type "list", data := .seq ([] : List Value).toArray } := kp _ _ g0
  refine wpAny_bind ?_
  show wpAny _ _ (updateSeq s.heap.objs.size (·.push .none) >>= fun _ => updateSeq s.heap.objs.size (·.pop)) _ _ _
  refine wpAny_bind (wpAny_updateSeq gS rfl ?_ (by simp) (by simp))
  have gS1 := Heap.get?_update_self (Obj.mapSeq (·.push Value.none)) gS rfl
  refine wpAny_updateSeq gS1 rfl ?_ (by simp; decide) (by simp)
  have gS2 := Heap.get?_update_self (Obj.mapSeq (·.pop)) gS1 rfl
  have oth : ∀ b o, b ≠ s.heap.objs.size → h'.get? b = some o → ((h'.update s.heap.objs.size (Obj.mapSeq (·.push Value.none))).update s.heap.objs.size (Obj.mapSeq (·.pop))).get? b = some o := fun b o hb g => by
    rw [Heap.get?_update_other _ _ (Ne.symm hb), Heap.get?_update_other _ _ (Ne.symm hb)]
    exact g
  have st2 := (W1 A.in1 (by simpa using hh)).frame 0 _ ((h'.update s.heap.objs.size (Obj.mapSeq (·.push Value.none))).update s.heap.objs.size (Obj.mapSeq (·.pop))) s.toks st (Nat.le_refl _) fun b hb o g => oth b o (fun z => hd (z ▸ hb)) g
  have hvl : n ≤ sizeLine := by rw [en]; exact sl_le (by omega)
  refine wpAny_pure ⟨plainId_quiet F.plain_extend_loop _, ?_⟩
  refine codeAny_extend_loopS (W1 A.in1 (by simpa using hh)) hvl _ hd _ n 0 _ _ _ rfl (Nat.zero_le _) st2 gS2 ⟨rfl, fun j v z => by simp at z⟩ fun s2 acc c m g2 it => ?_
  show wpAny _ A (load s.heap.objs.size >>= _) _ _ s2
  refine wpAny_bind (wpAny_load g2 ?_)
  have ev : acc.toList = vs := by
    have hl : acc.size = n := it.1
    have hvn : vs.length = n := by
      have h1 := IntsAre.length i2
      rw [h1, p2.length_eq, en]
    refine List.ext_getElem? fun j => ?_
    cases hj : acc.toList[j]? with
    | none =>
      have := List.getElem?_eq_none_iff.mp hj
      rw [Array.length_toList] at this
      rw [List.getElem?_eq_none (by omega)]
    | some v => exact (it.2 j v (by rw [← Array.getElem?_toList]; exact hj)).symm
  obtain ⟨h2, g', d2, tk, os⟩ := s2
  have eg : g' = s.gens := m.gens
  have ed : d2 = d := m.drawn
  have eo : os = s.os := m.os
  subst eg
  subst ed
  subst eo
  refine wpAny_pure ?_
  show Q acc.toList _
  rw [ev]
  refine k vs ns h2 d2 tk i2 p2 (Heap.lt_size g2) fun b o g => ?_
  have hb : b < s.heap.objs.size := Heap.lt_size g
  refine m.heap b o (fun z => ?_) (oth b o (neN (.inl hb)) (kp b o (kp1 b o g)))
  have z' : b = s.heap.objs.size ∨ b = I := by simpa using z
  rcases z' with z | z
  · exact absurd hb (by rw [z]; exact Nat.lt_irrefl _)
  · exact absurd (Nat.lt_of_lt_of_le hb (Nat.le_of_succ_le lI')) (by rw [z]; exact Nat.lt_irrefl _)
end
end L2
set_option Elab.async false
set_option linter.all false
set_option maxRecDepth 100000
namespace L2
open PySem PySem.Spec PyProof.Rows
theorem firstL_mem (f : Nat → Int) (k : Int) : ∀ n, k ∈ firstL f n ↔ ∃ i, i < n ∧ f i = k
  | 0 => by
    unfold firstL
    constructor
    · intro h; simp at h
    · rintro ⟨i, h, _⟩; omega
  | n + 1 => by
    have ih := firstL_mem f k n
    have e : k ∈ firstL f (n + 1) ↔ k ∈ firstL f n ∨ k = f n := by
      show k ∈ (if f n ∈ firstL f n then firstL f n else firstL f n ++ [f n]) ↔ _
      split
      · rename_i h
        exact ⟨.inl, fun z => z.elim id fun z => z ▸ h⟩
      · rw [List.mem_append, List.mem_singleton]
    rw [e, ih]
    constructor
    · rintro (⟨i, h, z⟩ | z)
      · exact ⟨i, by omega, z⟩
      · exact ⟨n, by omega, z.symm⟩
    · rintro ⟨i, h, z⟩
      by_cases hi : i = n
      · subst hi; exact .inr z.symm
      · exact .inl ⟨i, by omega, z⟩
theorem firstL_nodup (f : Nat → Int) : ∀ n, (firstL f n).Nodup
  | 0 => List.nodup_nil
  | n + 1 => by
    have ih := firstL_nodup f n
    show (if f n ∈ firstL f n then firstL f n else firstL f n ++ [f n]).Nodup
    split
    · exact ih
    · rename_i h
      rw [List.nodup_append]
      exact ⟨ih, by simp, fun x hx y hy z => h (by rw [← List.mem_singleton.mp hy, ← z]; exact hx)⟩
/-- a list's unlike things, as they come -/
def uniq (ns : List Int) : List Int := firstL (fun i => ns.getD i 0) ns.length
theorem uniq_mem (ns : List Int) (k : Int) : k ∈ uniq ns ↔ k ∈ ns := by
  unfold uniq
  rw [firstL_mem]
  constructor
  · rintro ⟨i, h, z⟩
    rw [List.getD_eq_getElem?_getD, List.getElem?_eq_getElem h] at z
    rw [← z]
    exact List.getElem_mem h
  · intro h
    obtain ⟨i, hi, e⟩ := List.getElem_of_mem h
    exact ⟨i, hi, by rw [List.getD_eq_getElem?_getD, List.getElem?_eq_getElem hi, e]; rfl⟩
theorem uniq_nodup (ns : List Int) : (uniq ns).Nodup := firstL_nodup _ _
theorem uniq_len (ns : List Int) : (uniq ns).length ≤ ns.length := firstL_len _ _
/-- a set of ints in the abstract heap -/
def SetO (P : Program) (w : World) (a : Addr) (ks : List Int) : HO := .ext fun h => SetL P w h a ks
section
variable {P : Program} {w : World} {A : Around} {E : Value → Shared → Prop} {s : Shared} {a : Addr} {ks : List Int}
theorem sortedL {Q : Value → Shared → Prop} (hh : A.handled = none) (hS : SetL P w s.heap a ks) (h64 : ks.length < 64)
    (k : ∀ l h' d tk vs ns e, s.heap.objs.size ≤ l → h'.get? l = some (seqObj "list" (List.toArray vs) e) → IntsAre vs ns → ns.Perm ks → ns.Pairwise (· ≤ ·) → (∀ b o, s.heap.get? b = some o → h'.get? b = some o) → Q (.ref l) { s with heap := h', drawn := d, toks := tk }) :
    wpAny (model P w) A (call (.builtin "sorted") [.ref a]) Q E s := by
  refine Calls.call_function_entry kind_sorted plain_sorted entry_sorted (args_sorted1 (.ref a)) ?_
  unfold Builtin.«sorted»
  refine wpAny_bind (m := checkCount "sorted" 1 1 _) ?_
  refine wpAny_pure ?_
  refine wpAny_bind (collectL (by simpa using hh) hS (by omega) fun vs ns h1 d tk i1 p1 hz kp => ?_)
  have hvl : vs.length = ks.length := by
    have h1 := IntsAre.length i1
    rw [h1, p1.length_eq]
  refine wpAny_bind (wpAny_newList ?_ (sl_le (by omega)))
  have gL : (h1.push (seqObj "list" vs.toArray 0)).get? h1.objs.size = some (seqObj "list" vs.toArray 0) := Heap.get?_push_size _ rfl
  refine wpAny_bind (wpAny_holding (wpAny_call_entry slot_list_sort ⟨_, gL, rfl⟩ entry_list_sort (list_sort_tree gL i1 (by omega) fun out n2 a1 a2 a3 => ⟨_, rfl, ?_⟩) (args_list_sort _)))
  obtain ⟨ep, ge⟩ := sortedHeap_at (out := out) gL
  refine wpAny_pure ⟨_, rfl, k _ _ d tk out.toList n2 ep (Nat.le_of_lt hz) (by simpa using ge) a1 (a2.trans p1) a3 fun b o g => ?_⟩
  have hb : b < h1.objs.size := Heap.lt_size (kp b o g)
  rw [sortedHeap_old (Nat.ne_of_lt hb) (by rw [show (h1.push (seqObj "list" vs.toArray 0)).objs.size = h1.objs.size + 1 from Heap.size_push ..]; exact Nat.lt_succ_of_lt hb)]
  exact Heap.get?_push_of_some _ (kp b o g)
end
section
variable {X : Cx} {pins : List (Addr × Obj)} {σ : St} {H : Hp} {s : Shared}
theorem Inv.draw (I : Inv X pins σ H s) (d : Drawn) : Inv X pins σ H { s with drawn := d } := ⟨I.ok, I.os, I.bare, I.base, I.loc, I.cell, I.free, I.freeC, I.pin, I.hok, I.len⟩
def rSet (P : Program) (w : World) : List V → Hp → VK → Prop := fun xs H Q => ∃ (l : Addr) (ns : List Int), xs = [.ref l] ∧ H l = some (.lst (ns.map V.int)) ∧ ns.length ≤ 4000 ∧ ∀ p, H p = none → Q (.ref p) (upd H p (SetO P w p (uniq ns)))
theorem call_setR (hc : X.calm = true) : CallR X (.type "set") (rSet X.prog X.w) := by
  intro pins s σ H xs us Q I r h
  obtain ⟨l, ns, rfl, hH, h4, q⟩ := h
  cases r with
  | cons r rr =>
    cases rr
    cases r
    obtain ⟨z, its, n, rv, hl, e⟩ := I.lstM hH
    have hil : its.length = ns.length := by rw [← hl, List.length_map]
    have hf : H s.heap.objs.size = none := I.hok.fresh (Nat.le_refl _)
    refine call_setL (by simpa using I.ok.hd hc) (its := its.toArray) (ns := ns) ⟨_, e, rfl, n, rfl⟩ (by simpa using intsAre_of rv) (by rw [List.size_toArray, hil]; unfold scanBound; omega) fun h' tk S kp => ?_
    have ez : its.toArray.size = ns.length := by rw [List.size_toArray, hil]
    rw [ez] at S
    refine ⟨.ref s.heap.objs.size, _, I.laid (o := SetO X.prog X.w s.heap.objs.size (uniq ns)) (t' := tk) (fun b o g => kp b o (Heap.lt_size g) g) (Nat.le_refl _) ?_, rfl, q _ hf⟩
    refine ⟨S, ?_, fun h1 h2 x y => SetL.at x y⟩
    obtain ⟨o, es, ep, t, g, _⟩ := S
    exact ⟨o, g⟩
def rLenSet (P : Program) (w : World) : List V → Hp → VK → Prop := fun xs H Q => ∃ (p : Addr) (ks : List Int), xs = [.ref p] ∧ H p = some (SetO P w p ks) ∧ Q (.int ks.length) H
theorem call_lenSet : CallR X (.builtin "len") (rLenSet X.prog X.w) := by
  intro pins s σ H xs us Q I r h
  obtain ⟨p, ks, rfl, hH, q⟩ := h
  cases r with
  | cons r rr =>
    cases rr
    cases r
    obtain ⟨⟨o, es, ep, t, g, gx, gd, el, ⟨ns, hi, hp⟩, hb, hf, ht, hl⟩, _⟩ := I.hok p _ hH
    have hlen : es.size = ks.length := by
      have h1 := IntsAre.length hi
      rw [List.length_map, Array.length_toList] at h1
      rw [h1, hp.length_eq]
    refine call_len_set g gx gd hf (by unfold scanBound at hb; omega) ?_
    rw [hlen]
    exact ⟨.int ks.length, H, I.tok _, ⟨_, rfl⟩, q⟩
def rSortSet (P : Program) (w : World) : List V → Hp → VK → Prop := fun xs H Q => ∃ (p : Addr) (ks : List Int), xs = [.ref p] ∧ H p = some (SetO P w p ks) ∧ ks.length < 64 ∧ ∀ (l : Addr) (ns : List Int), H l = none → ns.Perm ks → ns.Pairwise (· ≤ ·) → Q (.ref l) (upd H l (.lst (ns.map V.int)))
theorem call_sortSet (hc : X.calm = true) : CallR X (.builtin "sorted") (rSortSet X.prog X.w) := by
  intro pins s σ H xs us Q I r h
  obtain ⟨p, ks, rfl, hH, h64, q⟩ := h
  cases r with
  | cons r rr =>
    cases rr
    cases r
    obtain ⟨S, _⟩ := I.hok p _ hH
    refine sortedL (by simpa using I.ok.hd hc) S h64 fun l h' d tk vs ns e hz gl i1 p1 w1 kp => ?_
    have hf : H l = none := I.hok.fresh hz
    refine ⟨.ref l, _, (I.draw d).laid (o := .lst (ns.map V.int)) (t' := tk) (fun b o g => kp b o g) hz ?_, rfl, q l ns hf p1 w1⟩
    exact ⟨sl_le (by rw [List.length_map, p1.length_eq]; omega), vs, e, ints_vals i1, gl⟩
end
end L2
set_option Elab.async false
set_option linter.all false
set_option maxRecDepth 100000
namespace L2
open PySem PySem.Spec PyProof.Rows
theorem boot_setT : bootBuiltins "set" = some (.type "set") := by decide +kernel
/-- a comprehension over zip -/
theorem comp_zip {K : PySem.W.Frag} {t1 t2 : Bool} {l1 l2 : Addr} {xs ys : List V} {g : TG} {tt : TT} {te : TE} {ix : List (Option Nat)} {σ : St} {H : Hp} {QD : Hp → Prop} {D : Addr} (hlen : xs.length = ys.length) (Pv : Nat → Hp → Prop) (h0 : Pv 0 (upd H D (.lst [])))
    (hl : ∀ i H', Pv i H' → Sq K t1 H' l1 xs ∧ Sq K t2 H' l2 ys) (stop : ∀ H', Pv xs.length H' → QD H')
    (step : ∀ i x y p H', xs[i]? = some x → ys[i]? = some y → Pv i H' → H' p = none → g (.ref p) (capS ix σ) (upd H' p (.tup [x, y])) fun σ2 H3 => KeepS (capS ix σ) σ2 ∧ tt σ2 H3 fun b H4 =>
      if b = true then te σ2 H4 fun v H5 => ∃ zs, H5 D = some (.lst zs) ∧ zs.length < sizeLine ∧ Pv (i + 1) (upd H5 D (.lst (zs ++ [v]))) else Pv (i + 1) H4) :
    ∃ W : Nat → Nat → Hp → Prop, (∃ m, W 0 m (upd H D (.lst []))) ∧ ∀ i m H, W i m H →
      ((Itz K t1 t2 l1 l2).stop i H ∧ QD H) ∨ ((Itz K t1 t2 l1 l2).go i H ∧ ∃ N : Hp → Prop, (∀ H', N H' → ∃ m', m' < m ∧ W (i + 1) m' H') ∧ ∀ x H', (Itz K t1 t2 l1 l2).yld i H x H' → g x (capS ix σ) H' fun σ2 H2 => KeepS (capS ix σ) σ2 ∧ tt σ2 H2 fun b H3 =>
        if b = true then te σ2 H3 fun v H4 => ∃ zs, H4 D = some (.lst zs) ∧ zs.length < sizeLine ∧ N (upd H4 D (.lst (zs ++ [v]))) else N H3) := by
  refine comp_by (n := xs.length) Pv h0 (fun H' p => ⟨?_, stop H' p⟩) fun i H' hi p => ⟨?_, ?_⟩
  · obtain ⟨q1, q2⟩ := hl _ H' p
    exact ⟨xs, ys, q1, q2, .inl (by simp)⟩
  · obtain ⟨q1, q2⟩ := hl _ H' p
    exact ⟨xs, ys, _, _, q1, q2, List.getElem?_eq_getElem hi, List.getElem?_eq_getElem (by omega)⟩
  · rintro x H2 ⟨pp, u, v, hp, rfl, rfl, hu⟩
    obtain ⟨q1, q2⟩ := hl _ H' p
    obtain ⟨h1, h2⟩ := hu xs ys q1 q2
    exact step i u v pp H' h1 h2 p hp
end L2
set_option Elab.async false
set_option linter.all false
set_option maxRecDepth 100000
namespace L2
open PySem PySem.Spec PyProof.Rows
section
variable {X : Cx}
end
end L2
set_option Elab.async false
set_option linter.all false
set_option maxRecDepth 100000
namespace L2
open PySem PySem.Spec PyProof.Rows
def dOf : V → PyData
  | .non => .none
  | .bl b => .bool b
  | .int i => .int i
  | .str s => .str s
  | _ => .none
theorem flat_at {H : Hp} : ∀ {v : V}, flatV v = true → At H v (dOf v)
  | .non, _ => .non
  | .bl b, _ => .bl b
  | .int i, _ => .int i
  | .str s, _ => .str s
theorem flats_at {H : Hp} : ∀ {vs : List V}, vs.all flatV = true → AtAll H vs (vs.map dOf)
  | [], _ => .nil
  | v :: vs, h => by
    rw [List.all_cons, Bool.and_eq_true] at h
    exact .cons (flat_at h.1) (flats_at h.2)
theorem flats_depth : ∀ {vs : List V}, vs.all flatV = true → PyData.depthAll (vs.map dOf) ≤ 1
  | [], _ => by simp [PyData.depthAll]
  | v :: vs, h => by
    rw [List.all_cons, Bool.and_eq_true] at h
    have ih := flats_depth h.2
    have h1 : (dOf v).depth ≤ 1 := by
      cases v <;> first | simp [dOf, PyData.depth] | (simp [flatV] at h)
    simp only [List.map_cons, PyData.depthAll]
    omega
def Fl (xs : List V) : Prop := xs.all flatV = true ∧ PyData.canLayAll0 (xs.map dOf) = true
section
variable {X : Cx}
end
end L2
set_option Elab.async false
set_option linter.all false
set_option maxRecDepth 100000
set_option maxHeartbeats 1600000
namespace Mh
open PySem L2 PyProof.Rows
def top (i : Nat) : Stmt := PySem.Challenge.pw_marchmend_k08_little_and_placed.main.body.getD i (.Pass ⟨0, 0, 0, 0⟩)
def b2i (b : Bool) : Int := if b then 1 else 0
theorem iteB {b : Bool} {A B : Prop} (hb : b = true) (h : A) : if b = true then A else B := by
  rw [if_pos hb]; exact h
theorem iteN {b : Bool} {A B : Prop} (hb : b = false) (h : B) : if b = true then A else B := by
  rw [if_neg (by rw [hb]; exact Bool.false_ne_true)]; exact h
theorem iteD {c : Prop} [Decidable c] {A B : Prop} (hc : c) (h : A) : if decide c = true then A else B := iteB (decide_eq_true hc) h

theorem map_get {α β : Type} {f : α → β} {l : List α} {i : Nat} {d : β} (h : (l.map f)[i]? = some d) : ∃ x, l[i]? = some x ∧ d = f x := by
  rw [List.getElem?_map] at h
  cases e : l[i]? with
  | none => rw [e] at h; cases h
  | some x => rw [e] at h; exact ⟨x, rfl, (Option.some.inj h).symm⟩
structure Hm where
  w : Str
  c : List Int
  r : List V
def tabP : List (Str × List V) := [("stuck", [.str "cell", .str "bit"]), ("slow", [.str "cell", .str "bit"]), ("forgets", [.str "cell", .str "bit"]), ("misreads", [.str "cell", .str "bit"]), ("turns", [.str "cell", .str "cell", .str "bit"]), ("sets", [.str "cell", .str "cell", .str "bit", .str "bit"]),
  ("keeps", [.str "cell", .str "cell", .str "bit", .str "bit"]), ("nowhere", [.str "cell", .str "bit"]), ("other", [.str "cell", .str "cell"]), ("both", [.str "cell", .str "cell", .str "how"])]
def bitV (v : V) : Prop := ∃ b, v = .int (b2i b)
def howV (v : V) : Prop := v = .str "and" ∨ v = .str "or"
/-- the rest's names, and the things that bear them -/
inductive Rest : List Str → List V → Prop
  | nil : Rest [] []
  | bit {v : V} {ns : List Str} {vs : List V} : bitV v → Rest ns vs → Rest ("bit" :: ns) (v :: vs)
  | how {v : V} {ns : List Str} {vs : List V} : howV v → Rest ns vs → Rest ("how" :: ns) (v :: vs)
def namesOf (n : Nat) (ns : List Str) : List V := List.replicate n (V.str "cell") ++ ns.map V.str
def hV (h : Hm) : List V := .str h.w :: (h.c.map V.int ++ h.r)
structure okH (h : Hm) (ns : List Str) : Prop where
  tab : KTD.datumAt h.w tabP = some (namesOf h.c.length ns)
  rest : Rest ns h.r
  cl : 1 ≤ h.c.length ∧ h.c.length ≤ 2
  rl : ns.length ≤ 2
  nd : h.c.Nodup
  rg : ∀ x ∈ h.c, 0 ≤ x ∧ x < 64
theorem Rest.len {ns : List Str} {vs : List V} (h : Rest ns vs) : vs.length = ns.length := by
  induction h with
  | nil => rfl
  | bit _ _ ih => simp [ih]
  | how _ _ ih => simp [ih]
theorem okH.len {h : Hm} {ns : List Str} (o : okH h ns) : (h.c.map V.int ++ h.r).length = (namesOf h.c.length ns).length := by
  unfold namesOf
  simp [o.rest.len]
section
variable {P : Program} {w : World} {K : PySem.W.Frag} {mg : Str → Option Value} {base : Heap}
def sp_is_whole : Sp := fun vs H Q _ => ∃ i, vs = [.int i] ∧ Q (.bl true) H
abbrev s_is_whole : Stmt := top 4
theorem sc_is_whole : FnScope ["thing"] ["thing"] (defScope s_is_whole) := ⟨rfl, rfl, rfl, by decide +kernel, rfl, by decide +kernel, by decide +kernel⟩
/- slots: 0 thing -/
theorem ok_is_whole (B : Bl mg) (F : FnAt K mg "is_whole" s_is_whole ["thing"]) : Has P w K mg base 1 "is_whole" ["thing"] sp_is_whole := by
  refine Has.of F sc_is_whole (fun vs H Q E h => ?_) (fun f cdv A outer s H vs Q E hr h => ?_)
  · obtain ⟨i, rfl, _⟩ := h
    rfl
  · obtain ⟨i, rfl, k⟩ := h
    have sc := sc_is_whole
    refine ⟨_, (pss_one (ps_ret (pe_and (pe_callB call_isi rfl (B.of rfl) boot_isinstance (pa_cons (pv 0) (pa_cons (pe_bltn (v := .ty "int") rfl (B.of rfl) boot_int rfl) pa_nil))) (pe_one (pe_not (pe_callB call_isi rfl (B.of rfl) boot_isinstance (pa_cons (pv 0) (pa_cons (pe_bltn (v := .ty "bool") rfl (B.of rfl) boot_bool rfl) pa_nil)))))))), ?_⟩
    refine ⟨_, rfl, _, _, _, _, rfl, .int i, rfl, _, rfl, iteT ?_⟩
    refine ⟨_, rfl, _, _, _, _, rfl, .int i, rfl, _, rfl, ?_⟩
    exact k

def sp_is_bit : Sp := fun vs H Q _ => ∃ b, vs = [.int (b2i b)] ∧ ∀ H', Same H H' → Q (.bl true) H'
abbrev s_is_bit : Stmt := top 5
theorem sc_is_bit : FnScope ["thing"] ["thing"] (defScope s_is_bit) := ⟨rfl, rfl, rfl, by decide +kernel, rfl, by decide +kernel, by decide +kernel⟩
/- slots: 0 thing -/
theorem ok_is_bit (h_is_whole : Has P w K mg base 1 "is_whole" ["thing"] sp_is_whole) (F : FnAt K mg "is_bit" s_is_bit ["thing"]) : Has P w K mg base 2 "is_bit" ["thing"] sp_is_bit := by
  refine Has.of F sc_is_bit (fun vs H Q E h => ?_) (fun f cdv A outer s H vs Q E hr h => ?_)
  · obtain ⟨i, rfl, _⟩ := h
    rfl
  · obtain ⟨b, rfl, k⟩ := h
    have sc := sc_is_bit
    refine ⟨_, (pss_one (ps_ret (pe_and (pe_callH h_is_whole hr (pa_cons (pv 0) pa_nil)) (pe_one (pe_cmpR op_in_seq (pv 0) (pe_tup (pa_cons pe_int (pa_cons pe_int pa_nil))) (by with_unfolding_all rfl)))))), ?_⟩
    refine ⟨_, rfl, _, rfl, _, rfl, iteT ?_⟩
    refine ⟨_, rfl, (by show 2 ≤ sizeLine; decide), fun p hp => ⟨p, _, rfl, .inr (SqT.of upd_same), rfl, rfl, ?_⟩⟩
    cases b <;> exact k _ (Same.upd (Same.refl _) hp)
def sp_is_one_of (K : PySem.W.Frag) : Sp := fun vs H Q _ => ∃ x a xs, vs = [.str x, .ref a] ∧ (∀ H', SqT K H' a xs) ∧ xs.all flatV = true ∧ Q (.bl (inV (.str x) xs)) H
abbrev s_is_one_of : Stmt := top 6
theorem sc_is_one_of : FnScope ["thing", "words"] ["thing", "words"] (defScope s_is_one_of) := ⟨rfl, rfl, rfl, by decide +kernel, rfl, by decide +kernel, by decide +kernel⟩
/- slots: 0 thing, 1 words -/
theorem ok_is_one_of (B : Bl mg) (F : FnAt K mg "is_one_of" s_is_one_of ["thing", "words"]) : Has P w K mg base 1 "is_one_of" ["thing", "words"] (sp_is_one_of K) := by
  refine Has.of F sc_is_one_of (fun vs H Q E h => ?_) (fun f cdv A outer s H vs Q E hr h => ?_)
  · obtain ⟨x, a, xs, rfl, _⟩ := h
    rfl
  · obtain ⟨x, a, xs, rfl, hq, hf, k⟩ := h
    have sc := sc_is_one_of
    refine ⟨_, (pss_one (ps_ret (pe_and (pe_callB call_isi rfl (B.of rfl) boot_isinstance (pa_cons (pv 0) (pa_cons (pe_bltn (v := .ty "str") rfl (B.of rfl) boot_str rfl) pa_nil))) (pe_one (pe_cmpR op_in_seq (pv 0) (pv 1) (by with_unfolding_all rfl)))))), ?_⟩
    refine ⟨_, rfl, _, _, _, _, rfl, .str x, rfl, _, rfl, iteT ?_⟩
    exact ⟨_, rfl, _, rfl, a, xs, rfl, .inr (hq _), rfl, hf, k⟩

def sp_is_cell : Sp := fun vs H Q _ => ∃ x, vs = [.int x] ∧ 0 ≤ x ∧ x < 64 ∧ Q (.bl true) H
abbrev s_is_cell : Stmt := top 13
theorem sc_is_cell : FnScope ["thing"] ["thing"] (defScope s_is_cell) := ⟨rfl, rfl, rfl, by decide +kernel, rfl, by decide +kernel, by decide +kernel⟩
/- slots: 0 thing -/
theorem ok_is_cell (g_MOST_CELLS : ∃ t, mg "MOST_CELLS" = some (.int 64 t)) (h_is_whole : Has P w K mg base 1 "is_whole" ["thing"] sp_is_whole) (F : FnAt K mg "is_cell" s_is_cell ["thing"]) : Has P w K mg base 2 "is_cell" ["thing"] sp_is_cell := by
  refine Has.of F sc_is_cell (fun vs H Q E h => ?_) (fun f cdv A outer s H vs Q E hr h => ?_)
  · obtain ⟨x, rfl, _⟩ := h
    rfl
  · obtain ⟨x, rfl, h0, h1, k⟩ := h
    have sc := sc_is_cell
    refine ⟨_, (pss_one (ps_ret (pe_and (pe_callH h_is_whole hr (pa_cons (pv 0) pa_nil)) (pe_and (pe_cmpR op_ge (pv 0) pe_int (nomark _)) (pe_one (pe_cmpR op_lt (pv 0) (pe_gint g_MOST_CELLS) (nomark _))))))), ?_⟩
    refine ⟨_, rfl, x, rfl, _, rfl, iteT ?_⟩
    refine ⟨_, rfl, _, _, rfl, rfl, _, rfl, iteD (by omega) ?_⟩
    refine ⟨_, rfl, _, _, rfl, rfl, ?_⟩
    show Q (.bl (decide (x < 64))) H
    rw [decide_eq_true h1]
    exact k
def PartOk (nm : Str) (v : V) : Prop := (nm = "cell" ∧ ∃ x, v = .int x ∧ 0 ≤ x ∧ x < 64) ∨ (nm = "bit" ∧ bitV v) ∨ (nm = "how" ∧ howV v)
def sp_is_part : Sp := fun vs H Q _ => ∃ nm v, vs = [.str nm, v] ∧ PartOk nm v ∧ ∀ H', Same H H' → Q (.bl true) H'
abbrev s_is_part : Stmt := top 14
theorem sc_is_part : FnScope ["name", "thing"] ["name", "thing"] (defScope s_is_part) := ⟨rfl, rfl, rfl, by decide +kernel, rfl, by decide +kernel, by decide +kernel⟩
/- slots: 0 name, 1 thing -/
theorem ok_is_part (g_JOININGS : GTup K mg "JOININGS" [.str "and", .str "or"]) (h_is_cell : Has P w K mg base 2 "is_cell" ["thing"] sp_is_cell) (h_is_bit : Has P w K mg base 2 "is_bit" ["thing"] sp_is_bit) (h_is_one_of : Has P w K mg base 1 "is_one_of" ["thing", "words"] (sp_is_one_of K)) (F : FnAt K mg "is_part" s_is_part ["name", "thing"]) : Has P w K mg base 3 "is_part" ["name", "thing"] sp_is_part := by
  refine Has.of F sc_is_part (fun vs H Q E h => ?_) (fun f cdv A outer s H vs Q E hr h => ?_)
  · obtain ⟨nm, v, rfl, _⟩ := h
    rfl
  · obtain ⟨nm, v, rfl, hp, k⟩ := h
    have sc := sc_is_part
    refine ⟨_, (pss_cons (ps_if (pt_cmpR op_eq (pv 0) pe_str (nomark _))
        (pss_one (ps_ret (pe_callH h_is_cell hr (pa_cons (pv 1) pa_nil))))
        pss_nil)
      (pss_cons (ps_if (pt_cmpR op_eq (pv 0) pe_str (nomark _))
        (pss_one (ps_ret (pe_callH h_is_bit hr (pa_cons (pv 1) pa_nil))))
        pss_nil)
      (pss_one (ps_ret (pe_callH h_is_one_of hr (pa_cons (pv 1) (pa_cons (pe_gtup g_JOININGS) pa_nil))))))), ?_⟩
    rcases hp with ⟨rfl, x, rfl, h0, h1⟩ | ⟨rfl, b, rfl⟩ | ⟨rfl, hv⟩
    · refine ⟨_, rfl, rfl, _, rfl, iteB (by decide +kernel) ?_⟩
      exact ⟨_, rfl, x, rfl, h0, h1, k H (Same.refl H)⟩
    · refine ⟨_, rfl, rfl, _, rfl, iteN (by decide +kernel) ?_⟩
      refine ⟨_, rfl, rfl, _, rfl, iteB (by decide +kernel) ?_⟩
      exact ⟨_, rfl, b, rfl, k⟩
    · refine ⟨_, rfl, rfl, _, rfl, iteN (by decide +kernel) ?_⟩
      refine ⟨_, rfl, rfl, _, rfl, iteN (by decide +kernel) ?_⟩
      rcases hv with rfl | rfl
      · refine ⟨_, rfl, fun a ha => ⟨_, a, _, rfl, ha, by decide, ?_⟩⟩
        exact k H (Same.refl H)
      · refine ⟨_, rfl, fun a ha => ⟨_, a, _, rfl, ha, by decide, ?_⟩⟩
        exact k H (Same.refl H)
/-- a harm in the heap -/
def HAt (H : Hp) (v : V) (h : Hm) : Prop := ∃ a, v = .ref a ∧ H a = some (.tup (hV h))
def sp_has_word : Sp := fun vs H Q _ => ∃ v h ns, vs = [v] ∧ HAt H v h ∧ okH h ns ∧ Q (.bl true) H
abbrev s_has_word : Stmt := top 15
theorem sc_has_word : FnScope ["thing"] ["thing"] (defScope s_has_word) := ⟨rfl, rfl, rfl, by decide +kernel, rfl, by decide +kernel, by decide +kernel⟩
/- slots: 0 thing -/
theorem ok_has_word (B : Bl mg) {aP : Addr} (gP : mg "PARTS" = some (.ref aP)) (TP : TabK K aP tabP) (F : FnAt K mg "has_word" s_has_word ["thing"]) : Has P w K mg base 1 "has_word" ["thing"] sp_has_word := by
  refine Has.of F sc_has_word (fun vs H Q E h => ?_) (fun f cdv A outer s H vs Q E hr h => ?_)
  · obtain ⟨v, h, ns, rfl, _⟩ := h
    rfl
  · obtain ⟨v, h, ns, rfl, ⟨a, rfl, ha⟩, ok, k⟩ := h
    have sc := sc_has_word
    refine ⟨_, (pss_one (ps_ret (pe_and (pe_callB call_isi rfl (B.of rfl) boot_isinstance (pa_cons (pv 0) (pa_cons (pe_bltn (v := .ty "tuple") rfl (B.of rfl) boot_tuple rfl) pa_nil))) (pe_and (pe_cmpR op_gt (pe_callB call_len_seq rfl (B.of rfl) boot_len (pa_cons (pv 0) pa_nil)) pe_int (nomark _)) (pe_and (pe_callB call_isi rfl (B.of rfl) boot_isinstance (pa_cons (pe_ix ix_tup (pv 0) pe_int (fun _ _ => rfl)) (pa_cons (pe_bltn (v := .ty "str") rfl (B.of rfl) boot_str rfl) pa_nil))) (pe_one (pe_cmpR (op_inTab (D := tabP)) (pe_ix ix_tup (pv 0) pe_int (fun _ _ => rfl)) (pe_glob (v := .ref aP) rfl gP rfl) (by with_unfolding_all rfl)))))))), ?_⟩
    refine ⟨_, rfl, _, _, _, _, rfl, .tup ha, rfl, _, rfl, iteT ?_⟩
    refine ⟨_, rfl, a, _, rfl, .inr (SqT.of ha), _, _, rfl, rfl, _, rfl, iteD (by unfold hV; simp; omega) ?_⟩
    refine ⟨_, rfl, a, _, _, _, rfl, rfl, SqT.of ha, atI_lit 0 rfl, _, _, _, _, rfl, .str _, rfl, _, rfl, iteT ?_⟩
    refine ⟨_, rfl, a, _, _, _, rfl, rfl, SqT.of ha, atI_lit 0 rfl, aP, h.w, rfl, rfl, TP, ?_⟩
    have e : KTD.inKeys h.w tabP = true := by rw [← KTD.isSome_datumAt, ok.tab]; rfl
    rw [e]
    exact k
end
end Mh
set_option Elab.async false
set_option linter.all false
set_option maxRecDepth 100000
set_option maxHeartbeats 1600000
namespace Mh
open PySem L2 PyProof.Rows
section
variable {P : Program} {w : World} {K : PySem.W.Frag} {mg : Str → Option Value} {base : Heap}
theorem Rest.get {ns : List Str} {vs : List V} (h : Rest ns vs) : ∀ {i : Nat} {n : Str} {v : V}, ns[i]? = some n → vs[i]? = some v → (n = "bit" ∧ bitV v) ∨ (n = "how" ∧ howV v) := by
  induction h with
  | nil => intro i n v h; simp at h
  | bit hb _ ih =>
    intro i n v h1 h2
    cases i with
    | zero => simp at h1 h2; subst h1 h2; exact .inl ⟨rfl, hb⟩
    | succ i => simp at h1 h2; exact ih h1 h2
  | how hb _ ih =>
    intro i n v h1 h2
    cases i with
    | zero => simp at h1 h2; subst h1 h2; exact .inr ⟨rfl, hb⟩
    | succ i => simp at h1 h2; exact ih h1 h2
theorem okH.cellAt {h : Hm} {ns : List Str} (o : okH h ns) {i : Nat} {x y : V} (hx : (namesOf h.c.length ns)[i]? = some x) (hy : (h.c.map V.int ++ h.r)[i]? = some y) :
    (x = .str "cell" ∧ ∃ c, h.c[i]? = some c ∧ y = .int c) ∨ (h.c.length ≤ i ∧ ((x = .str "bit" ∧ bitV y) ∨ (x = .str "how" ∧ howV y))) := by
  unfold namesOf at hx
  by_cases hi : i < h.c.length
  · rw [List.getElem?_append_left (by simpa using hi), List.getElem?_replicate, if_pos hi] at hx
    rw [List.getElem?_append_left (by simpa using hi)] at hy
    obtain ⟨c, hc, rfl⟩ := map_get hy
    exact .inl ⟨(Option.some.inj hx).symm, c, hc, rfl⟩
  · rw [List.getElem?_append_right (by simpa using Nat.le_of_not_lt hi)] at hx
    rw [List.getElem?_append_right (by simpa using Nat.le_of_not_lt hi)] at hy
    simp only [List.length_replicate, List.length_map] at hx hy
    obtain ⟨n, hn, rfl⟩ := map_get hx
    rcases o.rest.get hn hy with ⟨rfl, hb⟩ | ⟨rfl, hb⟩
    · exact .inr ⟨Nat.le_of_not_lt hi, .inl ⟨rfl, hb⟩⟩
    · exact .inr ⟨Nat.le_of_not_lt hi, .inr ⟨rfl, hb⟩⟩
theorem okH.partAt {h : Hm} {ns : List Str} (o : okH h ns) {i : Nat} {x y : V} (hx : (namesOf h.c.length ns)[i]? = some x) (hy : (h.c.map V.int ++ h.r)[i]? = some y) : ∃ nm, x = .str nm ∧ PartOk nm y := by
  rcases o.cellAt hx hy with ⟨rfl, c, hc, rfl⟩ | ⟨_, ⟨rfl, hb⟩ | ⟨rfl, hb⟩⟩
  · exact ⟨_, rfl, .inl ⟨rfl, c, rfl, o.rg c (List.mem_of_getElem? hc)⟩⟩
  · exact ⟨_, rfl, .inr (.inl ⟨rfl, hb⟩)⟩
  · exact ⟨_, rfl, .inr (.inr ⟨rfl, hb⟩)⟩
theorem tail_cut (h : Hm) : cutV (hV h) (some 1) none = h.c.map V.int ++ h.r := by
  unfold hV
  exact cut_drop 1
theorem tail_ne (h : Hm) : ¬ (HT.sIx (hV h).length 0 (some 1) = 0 ∧ HT.sIx (hV h).length (hV h).length none = (hV h).length) := by
  rintro ⟨h0, _⟩
  unfold hV HT.sIx at h0
  simp at h0
def sp_has_parts : Sp := fun vs H Q _ => ∃ v h ns, vs = [v] ∧ HAt H v h ∧ okH h ns ∧ ∀ H', Same H H' → Q (.bl true) H'
abbrev s_has_parts : Stmt := top 17
theorem sc_has_parts : FnScope ["thing", "names"] ["thing"] (defScope s_has_parts) := ⟨rfl, rfl, rfl, by decide +kernel, rfl, by decide +kernel, by decide +kernel⟩
/- slots: 0 thing, 1 names -/
theorem ok_has_parts (B : Bl mg) (z_zip : mg "zip" = none) (z_all : mg "all" = none) {aP : Addr} (gP : mg "PARTS" = some (.ref aP)) (TP : TabK K aP tabP) (h_is_part : Has P w K mg base 3 "is_part" ["name", "thing"] sp_is_part) (F : FnAt K mg "has_parts" s_has_parts ["thing"]) : Has P w K mg base 4 "has_parts" ["thing"] sp_has_parts := by
  refine Has.of F sc_has_parts (fun vs H Q E h => ?_) (fun f cdv A outer s H vs Q E hr h => ?_)
  · obtain ⟨v, h, ns, rfl, _⟩ := h
    rfl
  · obtain ⟨v, h, ns, rfl, ⟨a, rfl, ha⟩, ok, k⟩ := h
    have sc := sc_has_parts
    refine ⟨_, (pss_cons (ps_set (i := 1) sc.nd rfl (Or.inl rfl) (pe_ix (ix_tab (D := tabP)) (pe_glob (v := .ref aP) rfl gP rfl) (pe_ix ix_tup (pv 0) pe_int (fun _ _ => rfl)) (fun _ _ => rfl)))
      (pss_one (ps_ret (pe_and (pe_cmpR op_eq (pe_callB call_len_seq rfl (B.of rfl) boot_len (pa_cons (pv 0) pa_nil)) (pe_op op_add (pe_callB call_len_seq rfl (B.of rfl) boot_len (pa_cons (pv 1) pa_nil)) pe_int) (nomark _)) (pe_one (pe_callB (call_allB rfl) rfl z_all boot_allF (pa_cons (pe_comp rfl (compOk_of rfl) (M := ["name", "part"]) (ix := [none, none]) (pi_zip rfl z_zip (pa_cons (pv 1) (pa_cons (pe_slice sl_tup (pv 0) (po_some pe_int) po_none) pa_nil))) (fun _ _ _ _ => (pg_tupK (K := K) (n := 2) rfl rfl (pgs_cons (pg_name (i := 0) (show List.Nodup (["name", "part"] : List Str) by decide +kernel) rfl (Or.inl rfl)) (pgs_cons (pg_name (i := 1) (show List.Nodup (["name", "part"] : List Str) by decide +kernel) rfl (Or.inl rfl)) pgs_nil)))) (fun _ _ _ _ => pts_nil) (fun _ _ _ _ => (pe_callH h_is_part hr (pa_cons (pv 0) (pa_cons (pv 1) pa_nil))))) pa_nil))))))), ?_⟩
    refine ⟨_, rfl, a, _, _, _, rfl, rfl, SqT.of ha, atI_lit 0 rfl, aP, h.w, _, rfl, rfl, TP, ok.tab, fun pn hpn => ?_⟩
    refine ⟨_, rfl, a, _, rfl, .inr (SqT.of ha), _, rfl, pn, _, rfl, .inr (hpn _), _, _, rfl, rfl, rfl, _, rfl, iteD ?_ ?_⟩
    · have := ok.len
      congr 1
      unfold hV
      rw [List.length_cons, this]
      rfl
    refine ⟨_, rfl, _, rfl, _, rfl, a, _, rfl, SqT.of ha, tail_ne h, fun q hq => ?_⟩
    rw [tail_cut]
    have s1 : Same H (upd H q (.tup (h.c.map V.int ++ h.r))) := (Same.refl H).upd hq
    have e1 : upd H q (.tup (h.c.map V.int ++ h.r)) q = some (.tup (h.c.map V.int ++ h.r)) := upd_same
    revert s1 e1
    generalize upd H q (.tup (h.c.map V.int ++ h.r)) = H1
    intro s1 e1
    refine ⟨true, true, pn, q, _, _, rfl, hpn _, SqT.of e1, fun D hD => ?_⟩
    refine comp_zip (K := K) (ok.len.symm) (fun i H' => Same H1 H' ∧ H' D = some (.lst ((List.replicate i true).map V.bl))) ⟨(Same.refl H1).upd hD, upd_same⟩ ?_ ?_ ?_
    · rintro i H2 ⟨s2, e2⟩
      exact ⟨hpn _, SqT.of (s2 _ _ e1)⟩
    · rintro H2 ⟨s2, e2⟩
      refine ⟨D, _, rfl, e2, ?_⟩
      rw [show (List.replicate (namesOf h.c.length ns).length true).all id = true by simp]
      exact k _ (s1.trans s2)
    · rintro i x y p H2 hx hy ⟨s2, e2⟩ hp
      obtain ⟨nm, rfl, hpo⟩ := ok.partAt hx hy
      refine ⟨p, _, rfl, SqT.of upd_same, rfl, ?_⟩
      refine ⟨_, _, rfl, _, _, rfl, rfl, KeepS.set (KeepS.set (KeepS.refl _) rfl) rfl, yes ?_⟩
      refine ⟨_, rfl, _, rfl, nm, y, rfl, hpo, fun H3 s3 => ?_⟩
      have s23 : Same H2 H3 := ((Same.refl H2).upd hp).trans s3
      refine ⟨_, s23 _ _ e2, sl_lt ?_, (s2.trans s23).at hD, ?_⟩
      · have h1 := (List.getElem?_eq_some_iff.mp hx).1
        have h2 := ok.cl
        have h3 := ok.rl
        simp [namesOf] at h1 ⊢
        omega
      · rw [upd_same, List.replicate_succ', List.map_append]; rfl
end
end Mh
set_option Elab.async false
set_option linter.all false
set_option maxRecDepth 100000
set_option maxHeartbeats 1600000
namespace Mh
open PySem L2 PyProof.Rows
section
variable {P : Program} {w : World} {K : PySem.W.Frag} {mg : Str → Option Value} {base : Heap}
theorem take_more {h : Hm} {i : Nat} (hi : h.c.length ≤ i) : h.c.take (i + 1) = h.c.take i := by
  rw [List.take_of_length_le hi, List.take_of_length_le (by omega)]
def sp_cells_in : Sp := fun vs H Q _ => ∃ v h ns, vs = [v] ∧ HAt H v h ∧ okH h ns ∧ ∀ D H', Same H H' → H D = none → H' D = some (.lst (h.c.map V.int)) → Q (.ref D) H'
abbrev s_cells_in : Stmt := top 16
theorem sc_cells_in : FnScope ["harm"] ["harm"] (defScope s_cells_in) := ⟨rfl, rfl, rfl, by decide +kernel, rfl, by decide +kernel, by decide +kernel⟩
/- slots: 0 harm -/
theorem ok_cells_in (B : Bl mg) (z_zip : mg "zip" = none) {aP : Addr} (gP : mg "PARTS" = some (.ref aP)) (TP : TabK K aP tabP) (F : FnAt K mg "cells_in" s_cells_in ["harm"]) : Has P w K mg base 1 "cells_in" ["harm"] sp_cells_in := by
  refine Has.of F sc_cells_in (fun vs H Q E h => ?_) (fun f cdv A outer s H vs Q E hr h => ?_)
  · obtain ⟨v, h, ns, rfl, _⟩ := h
    rfl
  · obtain ⟨v, h, ns, rfl, ⟨a, rfl, ha⟩, ok, k⟩ := h
    have sc := sc_cells_in
    refine ⟨_, (pss_one (ps_ret (pe_comp rfl (compOk_of rfl) (M := ["name", "part"]) (ix := [none, none]) (pi_zip rfl z_zip (pa_cons (pe_ix (ix_tab (D := tabP)) (pe_glob (v := .ref aP) rfl gP rfl) (pe_ix ix_tup (pv 0) pe_int (fun _ _ => rfl)) (fun _ _ => rfl)) (pa_cons (pe_slice sl_tup (pv 0) (po_some pe_int) po_none) pa_nil))) (fun _ _ _ _ => (pg_tupK (K := K) (n := 2) rfl rfl (pgs_cons (pg_name (i := 0) (show List.Nodup (["name", "part"] : List Str) by decide +kernel) rfl (Or.inl rfl)) (pgs_cons (pg_name (i := 1) (show List.Nodup (["name", "part"] : List Str) by decide +kernel) rfl (Or.inl rfl)) pgs_nil)))) (fun _ _ _ _ => (pts_one (pt_cmpR op_eq (pv 0) pe_str (nomark _)))) (fun _ _ _ _ => (pv 1))))), ?_⟩
    refine ⟨_, rfl, a, _, _, _, rfl, rfl, SqT.of ha, atI_lit 0 rfl, aP, h.w, _, rfl, rfl, TP, ok.tab, fun pn hpn => ?_⟩
    refine ⟨_, rfl, _, rfl, a, _, rfl, SqT.of ha, tail_ne h, fun q hq => ?_⟩
    rw [tail_cut]
    have s1 : Same H (upd H q (.tup (h.c.map V.int ++ h.r))) := (Same.refl H).upd hq
    have e1 : upd H q (.tup (h.c.map V.int ++ h.r)) q = some (.tup (h.c.map V.int ++ h.r)) := upd_same
    revert s1 e1
    generalize upd H q (.tup (h.c.map V.int ++ h.r)) = H1
    intro s1 e1
    refine ⟨true, true, pn, q, _, _, rfl, hpn _, SqT.of e1, fun D hD => ?_⟩
    refine comp_zip (K := K) (ok.len.symm) (fun i H' => Same H1 H' ∧ H' D = some (.lst ((h.c.take i).map V.int))) ⟨(Same.refl H1).upd hD, upd_same⟩ ?_ ?_ ?_
    · rintro i H2 ⟨s2, e2⟩
      exact ⟨hpn _, SqT.of (s2 _ _ e1)⟩
    · rintro H2 ⟨s2, e2⟩
      rw [List.take_of_length_le (by simp [namesOf])] at e2
      exact k D H2 (s1.trans s2) (s1.free hD) e2
    · rintro i x y p H2 hx hy ⟨s2, e2⟩ hp
      have s3 : Same H2 (upd H2 p (.tup [x, y])) := (Same.refl H2).upd hp
      refine ⟨p, _, rfl, SqT.of upd_same, rfl, ?_⟩
      revert s3
      generalize upd H2 p (.tup [x, y]) = H3
      intro s3
      refine ⟨_, _, rfl, _, _, rfl, rfl, KeepS.set (KeepS.set (KeepS.refl _) rfl) rfl, ?_⟩
      rcases ok.cellAt hx hy with ⟨rfl, c, hc, rfl⟩ | ⟨hge, hh⟩
      · refine ⟨_, rfl, rfl, _, rfl, iteB (by decide +kernel) ?_⟩
        refine ⟨_, rfl, _, s3 _ _ e2, sl_lt ?_, (s2.trans s3).at hD, ?_⟩
        · have := ok.cl
          simp
          omega
        · rw [upd_same, List.take_add_one, hc]; simp
      · have hxn : ∃ nm, x = .str nm ∧ nm ≠ "cell" := by
          rcases hh with ⟨rfl, _⟩ | ⟨rfl, _⟩
          · exact ⟨_, rfl, by decide +kernel⟩
          · exact ⟨_, rfl, by decide +kernel⟩
        obtain ⟨nm, rfl, hnm⟩ := hxn
        refine ⟨_, rfl, rfl, _, rfl, iteN (by simpa using hnm) ?_⟩
        refine ⟨s2.trans s3, ?_⟩
        rw [take_more hge]
        exact s3 _ _ e2
/-- unlike ones stay as they are -/
theorem not_take {l : List Int} (h : l.Nodup) {i : Nat} (hi : i < l.length) : l[i] ∉ l.take i := by
  intro hm
  obtain ⟨j, hj, e⟩ := List.getElem_of_mem hm
  rw [List.getElem_take] at e
  have hj' : j < i := by simp at hj; omega
  have := (List.nodup_iff_pairwise_ne.mp h)
  exact (List.pairwise_iff_getElem.mp h j i (by omega) hi hj') e
theorem firstL_nd {l : List Int} (h : l.Nodup) : ∀ i, i ≤ l.length → firstL (fun i => l.getD i 0) i = l.take i
  | 0, _ => rfl
  | i + 1, hi => by
    show (if l.getD i 0 ∈ firstL (fun i => l.getD i 0) i then firstL (fun i => l.getD i 0) i else firstL (fun i => l.getD i 0) i ++ [l.getD i 0]) = _
    rw [firstL_nd h i (by omega)]
    have e : l.getD i 0 = l[i] := by rw [List.getD_eq_getElem?_getD, List.getElem?_eq_getElem (by omega)]; rfl
    rw [e, if_neg (not_take h (by omega)), List.take_add_one, List.getElem?_eq_getElem (by omega)]
    rfl
theorem uniq_nd {l : List Int} (h : l.Nodup) : uniq l = l := by
  unfold uniq
  rw [firstL_nd h _ (Nat.le_refl _), List.take_length]
theorem HAt.same {H H' : Hp} {v : V} {h : Hm} (s : Same H H') (x : HAt H v h) : HAt H' v h := by
  obtain ⟨a, rfl, ha⟩ := x
  exact ⟨a, rfl, s _ _ ha⟩
def sp_is_harm : Sp := fun vs H Q _ => ∃ v h ns, vs = [v] ∧ HAt H v h ∧ okH h ns ∧ ∀ H', Same H H' → Q (.bl true) H'
abbrev s_is_harm : Stmt := top 18
theorem sc_is_harm : FnScope ["thing", "cells"] ["thing"] (defScope s_is_harm) := ⟨rfl, rfl, rfl, by decide +kernel, rfl, by decide +kernel, by decide +kernel⟩
/- slots: 0 thing, 1 cells -/
theorem ok_is_harm (B : Bl mg) (z_set : mg "set" = none) (h_has_word : Has P w K mg base 1 "has_word" ["thing"] sp_has_word) (h_has_parts : Has P w K mg base 4 "has_parts" ["thing"] sp_has_parts) (h_cells_in : Has P w K mg base 1 "cells_in" ["harm"] sp_cells_in) (F : FnAt K mg "is_harm" s_is_harm ["thing"]) : Has P w K mg base 5 "is_harm" ["thing"] sp_is_harm := by
  refine Has.of F sc_is_harm (fun vs H Q E h => ?_) (fun f cdv A outer s H vs Q E hr h => ?_)
  · obtain ⟨v, h, ns, rfl, _⟩ := h
    rfl
  · obtain ⟨v, h, ns, rfl, hv, ok, k⟩ := h
    have sc := sc_is_harm
    refine ⟨_, (pss_cons (ps_if (PW.pt (pw_or (pt_not (pt_val (pe_callH h_has_word hr (pa_cons (pv 0) pa_nil)))) (pw_or1 (pt_not (pt_val (pe_callH h_has_parts hr (pa_cons (pv 0) pa_nil)))))))
        (pss_one (ps_ret pe_bl))
        pss_nil)
      (pss_cons (ps_set (i := 1) sc.nd rfl (Or.inl rfl) (pe_callH h_cells_in hr (pa_cons (pv 0) pa_nil)))
      (pss_one (ps_ret (pe_cmpR op_eq (pe_callB call_lenSet rfl (B.of rfl) boot_len (pa_cons (pe_callTy (call_setR rfl) rfl z_set boot_setT (pa_cons (pv 1) pa_nil)) pa_nil)) (pe_callB call_len_seq rfl (B.of rfl) boot_len (pa_cons (pv 1) pa_nil)) (nomark _)))))), ?_⟩
    refine ⟨_, rfl, v, h, ns, rfl, hv, ok, _, rfl, iteF ?_⟩
    refine ⟨_, rfl, v, h, ns, rfl, hv, ok, fun H1 s1 => ⟨_, rfl, iteF ?_⟩⟩
    refine ⟨_, rfl, v, h, ns, rfl, HAt.same s1 hv, ok, fun D H2 s2 hD e2 => ?_⟩
    refine ⟨_, rfl, D, h.c, rfl, e2, by have := ok.cl; omega, fun p hp => ?_⟩
    refine ⟨p, _, rfl, upd_same, ?_⟩
    have s3 : Same H2 (upd H2 p (SetO P w p (uniq h.c))) := (Same.refl H2).upd hp
    refine ⟨_, rfl, D, _, rfl, .inl (SqL.of (s3 _ _ e2)), rfl, ?_⟩
    rw [uniq_nd ok.nd, List.length_map, decide_eq_true rfl]
    rw [uniq_nd ok.nd] at s3
    exact k _ ((s1.trans s2).trans s3)
end
end Mh
set_option Elab.async false
set_option linter.all false
set_option maxRecDepth 100000
set_option maxHeartbeats 1600000
namespace Mh
open PySem L2 PyProof.Rows
theorem nodup_le {l : List Int} (h : l.Nodup) : ∀ {S : List Int}, (∀ x ∈ l, x ∈ S) → l.length ≤ S.length := by
  induction l with
  | nil => intro S _; exact Nat.zero_le _
  | cons x l ih =>
    intro S hs
    have hx := hs x (by simp)
    have hn := List.nodup_cons.mp h
    have := ih hn.2 (S := S.erase x) (fun y hy => (List.mem_erase_of_ne (fun z => by subst z; exact hn.1 hy)).mpr (hs y (by simp [hy])))
    rw [List.length_erase_of_mem hx] at this
    have := List.length_pos_of_mem hx
    simp
    omega
def allC (hs : List Hm) : List Int := hs.flatMap Hm.c
structure okHs (hs : List Hm) (S : List Int) : Prop where
  len : hs.length ≤ 3
  ok : ∀ h ∈ hs, ∃ ns, okH h ns
  sl : S.length ≤ 3
  mem : ∀ h ∈ hs, ∀ c ∈ h.c, c ∈ S
structure HsV (H : Hp) (vs : List V) (hs : List Hm) : Prop where
  len : vs.length = hs.length
  at_ : ∀ (i : Nat) (v : V) (h : Hm), vs[i]? = some v → hs[i]? = some h → HAt H v h
theorem HsV.same {H H' : Hp} {vs : List V} {hs : List Hm} (s : Same H H') (x : HsV H vs hs) : HsV H' vs hs := ⟨x.len, fun i v h a b => HAt.same s (x.at_ i v h a b)⟩
theorem HsV.get {H : Hp} {vs : List V} {hs : List Hm} (x : HsV H vs hs) {i : Nat} {v : V} (h : vs[i]? = some v) : ∃ g, hs[i]? = some g ∧ HAt H v g := by
  have hi := (List.getElem?_eq_some_iff.mp h).1
  have e : hs[i]? = some (hs[i]'(by rw [← x.len]; exact hi)) := List.getElem?_eq_getElem _
  exact ⟨_, e, x.at_ i v _ h e⟩
theorem allC_take {hs : List Hm} {i : Nat} {h : Hm} (e : hs[i]? = some h) : allC (hs.take (i + 1)) = allC (hs.take i) ++ h.c := by
  unfold allC
  rw [List.take_add_one, e]
  simp
theorem okHs.sub {hs : List Hm} {S : List Int} (o : okHs hs S) {l : List Hm} (hl : ∀ h ∈ l, h ∈ hs) : ∀ x ∈ allC l, x ∈ S := by
  intro x hx
  unfold allC at hx
  obtain ⟨h, hh, hc⟩ := List.mem_flatMap.mp hx
  exact o.mem h (hl h hh) x hc
theorem okHs.few {hs : List Hm} {S : List Int} (o : okHs hs S) {l : List Hm} (hl : ∀ h ∈ l, h ∈ hs) : (uniq (allC l)).length ≤ 3 :=
  Nat.le_trans (nodup_le (uniq_nodup _) (fun x hx => o.sub hl x ((uniq_mem _ x).mp hx))) o.sl
theorem allC_len {l : List Hm} (h : ∀ x ∈ l, x.c.length ≤ 2) : (allC l).length ≤ 2 * l.length := by
  induction l with
  | nil => simp [allC]
  | cons a l ih =>
    have h1 := h a (by simp)
    have h2 := ih (fun x hx => h x (by simp [hx]))
    unfold allC at *
    rw [List.flatMap_cons, List.length_append, List.length_cons]
    omega
theorem okHs.clen {hs : List Hm} {S : List Int} (o : okHs hs S) {l : List Hm} (hl : ∀ h ∈ l, h ∈ hs) : (allC l).length ≤ 2 * l.length :=
  allC_len fun x hx => by
    obtain ⟨ns, h⟩ := o.ok x (hl x hx)
    exact h.cl.2
theorem iteDN {c : Prop} [Decidable c] {A B : Prop} (hc : ¬ c) (h : B) : if decide c = true then A else B := iteN (decide_eq_false hc) h
section
variable {P : Program} {w : World} {K : PySem.W.Frag} {mg : Str → Option Value} {base : Heap}
def sp_look_at_harms : Sp := fun vs H Q _ => ∃ L us hs S, vs = [.ref L] ∧ H L = some (.lst us) ∧ HsV H us hs ∧ okHs hs S ∧ ∀ H', Same H H' → Q .non H'
abbrev s_look_at_harms : Stmt := top 19
theorem sc_look_at_harms : FnScope ["thing", "cells", "number", "harm"] ["thing"] (defScope s_look_at_harms) := ⟨rfl, rfl, rfl, by decide +kernel, rfl, by decide +kernel, by decide +kernel⟩
/- slots: 0 thing, 1 cells, 2 number, 3 harm -/
theorem ok_look_at_harms (B : Bl mg) (z_set : mg "set" = none) (g_MOST_HARMS : ∃ t, mg "MOST_HARMS" = some (.int 3 t)) (g_MOST_UNLIKE : ∃ t, mg "MOST_UNLIKE" = some (.int 3 t)) (h_is_harm : Has P w K mg base 5 "is_harm" ["thing"] sp_is_harm) (h_cells_in : Has P w K mg base 1 "cells_in" ["harm"] sp_cells_in) (F : FnAt K mg "look_at_harms" s_look_at_harms ["thing"]) : Has P w K mg base 6 "look_at_harms" ["thing"] sp_look_at_harms := by
  refine Has.of F sc_look_at_harms (fun vs H Q E h => ?_) (fun f cdv A outer s H vs Q E hr h => ?_)
  · obtain ⟨L, us, hs, S, rfl, _⟩ := h
    rfl
  · obtain ⟨L, us, hs, S, rfl, hL, hv, ok, k⟩ := h
    have sc := sc_look_at_harms
    refine ⟨_, (pss_cons (ps_if (PW.pt (pw_or (pt_not (pt_val (pe_callB call_isi rfl (B.of rfl) boot_isinstance (pa_cons (pv 0) (pa_cons (pe_bltn (v := .ty "list") rfl (B.of rfl) boot_list rfl) pa_nil))))) (pw_or1 (pt_cmpR op_gt (pe_callB call_len_seq rfl (B.of rfl) boot_len (pa_cons (pv 0) pa_nil)) (pe_gint g_MOST_HARMS) (nomark _)))))
        (pss_one ps_never)
        pss_nil)
      (pss_cons (ps_set (i := 1) sc.nd rfl (Or.inl rfl) (pe_lst pa_nil))
      (pss_one (ps_for PassesOwn.never rfl (pi_enum rfl (B.of rfl) (pa_cons (pv 0) pa_nil)) (pg_tup rfl (pgs_cons (pg_name (i := 2) sc.nd rfl (Or.inl rfl)) (pgs_cons (pg_name (i := 3) sc.nd rfl (Or.inl rfl)) pgs_nil)))
        (pss_cons (ps_if (pt_not (pt_val (pe_callH h_is_harm hr (pa_cons (pv 3) pa_nil))))
          (pss_one ps_never)
          pss_nil)
        (pss_cons (ps_expr (pe_bm PySem.F.plainAttrs_list PySem.F.slot_list_extend PySem.F.type_list_extend mt_extend (pv 1) (pa_cons (pe_callH h_cells_in hr (pa_cons (pv 3) pa_nil)) pa_nil)))
        (pss_one (ps_if (pt_cmpR op_gt (pe_callB call_lenSet rfl (B.of rfl) boot_len (pa_cons (pe_callTy (call_setR rfl) rfl z_set boot_setT (pa_cons (pv 1) pa_nil)) pa_nil)) (pe_gint g_MOST_UNLIKE) (nomark _))
          (pss_one ps_never)
          pss_nil)))))))), ?_⟩
    refine ⟨_, rfl, _, _, _, _, rfl, .lst hL, rfl, _, rfl, iteF ?_⟩
    refine ⟨_, rfl, L, us, rfl, .inl (SqL.of hL), _, _, rfl, rfl, _, rfl, iteDN (by have := hv.len; have := ok.len; omega) ?_⟩
    refine ⟨Nat.zero_le _, fun p hp => ?_⟩
    have npL : L ≠ p := ne_of_none hL hp
    refine ⟨_, rfl, L, us, rfl, SqL.of (by rw [upd_ne npL]; exact hL), for_enum (xs := us) (fun i σ H2 => ∃ (o2 o3 : Option V), σ = [some (.ref L), some (.ref p), o2, o3] ∧ Same H H2 ∧ H2 p = some (.lst ((allC (hs.take i)).map V.int)))
      ⟨none, none, rfl, (Same.refl H).upd hp, upd_same⟩ (fun i σ H2 _ ⟨_, _, _, h, _⟩ => SqL.of (h _ _ hL)) ?_ ?_⟩
    · rintro i x pp σ H2 hx ⟨o2, o3, rfl, s2, e2⟩ hpp
      obtain ⟨g, hg, hat⟩ := hv.get hx
      obtain ⟨ns, og⟩ := ok.ok g (List.mem_of_getElem? hg)
      have sP : Same H2 (upd H2 pp (.tup [.int i, x])) := (Same.refl H2).upd hpp
      refine ⟨pp, _, rfl, SqT.of upd_same, rfl, _, _, rfl, _, _, rfl, rfl, ?_⟩
      refine ⟨_, rfl, x, g, ns, rfl, HAt.same (s2.trans sP) hat, og, fun H3 s3 => ⟨_, rfl, iteF ?_⟩⟩
      have s23 : Same H2 H3 := sP.trans s3
      refine ⟨_, rfl, .inl ⟨rfl, _, SqL.of (s23 _ _ e2)⟩, ?_⟩
      refine ⟨_, rfl, x, g, ns, rfl, HAt.same (s2.trans s23) hat, og, fun D H4 s4 hD eD => ?_⟩
      have s24 := s23.trans s4
      have hsub : ∀ h ∈ hs.take (i + 1), h ∈ hs := fun h hh => List.mem_of_mem_take hh
      have hlt : (allC (hs.take (i + 1))).length ≤ 6 := by
        have h1 := ok.clen hsub
        have h2 := ok.len
        rw [List.length_take] at h1
        omega
      refine ⟨p, D, _, _, rfl, rfl, s24 _ _ e2, eD, ?_, ?_⟩
      · rw [← List.length_append, ← List.map_append, ← allC_take hg, List.length_map]
        exact Nat.le_of_lt (sl_lt (by omega))
      rw [← List.map_append, ← allC_take hg]
      have s5 : Same H (upd H4 p (.lst ((allC (hs.take (i + 1))).map V.int))) := (s2.trans s24).at hp
      have e5 : upd H4 p (.lst ((allC (hs.take (i + 1))).map V.int)) p = some (.lst ((allC (hs.take (i + 1))).map V.int)) := upd_same
      revert s5 e5
      generalize upd H4 p (.lst ((allC (hs.take (i + 1))).map V.int)) = H5
      intro s5 e5
      refine ⟨_, rfl, p, _, rfl, e5, by omega, fun q hq => ?_⟩
      have s6 : Same H5 (upd H5 q (SetO P w q (uniq (allC (hs.take (i + 1)))))) := (Same.refl H5).upd hq
      refine ⟨q, _, rfl, upd_same, _, _, rfl, rfl, _, rfl, iteDN (by have := ok.few hsub; omega) ?_⟩
      exact ⟨_, _, rfl, s5.trans s6, s6 _ _ e5⟩
    · rintro σ H2 ⟨o2, o3, rfl, s2, e2⟩
      exact k _ s2
end
end Mh
set_option Elab.async false
set_option linter.all false
set_option maxRecDepth 100000
set_option maxHeartbeats 1600000
namespace Mh
open PySem L2 PyProof.Rows
section
variable {P : Program} {w : World} {K : PySem.W.Frag} {mg : Str → Option Value} {base : Heap}
def sp_cells_of : Sp := fun vs H Q _ => ∃ L us hs S, vs = [.ref L] ∧ H L = some (.lst us) ∧ HsV H us hs ∧ okHs hs S ∧ ∀ (D : Addr) (ns : List Int) (H' : Hp), Same H H' → H D = none → H' D = some (.lst (ns.map V.int)) → ns.Perm (uniq (allC hs)) → ns.Pairwise (· ≤ ·) → Q (.ref D) H'
abbrev s_cells_of : Stmt := top 20
theorem sc_cells_of : FnScope ["harms", "cells", "harm"] ["harms"] (defScope s_cells_of) := ⟨rfl, rfl, rfl, by decide +kernel, rfl, by decide +kernel, by decide +kernel⟩
/- slots: 0 harms, 1 cells, 2 harm -/
theorem ok_cells_of (B : Bl mg) (z_set : mg "set" = none) (h_look_at_harms : Has P w K mg base 6 "look_at_harms" ["thing"] sp_look_at_harms) (h_cells_in : Has P w K mg base 1 "cells_in" ["harm"] sp_cells_in) (F : FnAt K mg "cells_of" s_cells_of ["harms"]) : Has P w K mg base 7 "cells_of" ["harms"] sp_cells_of := by
  refine Has.of F sc_cells_of (fun vs H Q E h => ?_) (fun f cdv A outer s H vs Q E hr h => ?_)
  · obtain ⟨L, us, hs, S, rfl, _⟩ := h
    rfl
  · obtain ⟨L, us, hs, S, rfl, hL, hv, ok, k⟩ := h
    have sc := sc_cells_of
    refine ⟨_, (pss_cons (ps_expr (pe_callH h_look_at_harms hr (pa_cons (pv 0) pa_nil)))
      (pss_cons (ps_set (i := 1) sc.nd rfl (Or.inl rfl) (pe_lst pa_nil))
      (pss_cons (ps_for PassesOwn.never rfl (pi_list (pv 0)) (pg_name (i := 2) sc.nd rfl (Or.inl rfl))
        (pss_one (ps_expr (pe_bm PySem.F.plainAttrs_list PySem.F.slot_list_extend PySem.F.type_list_extend mt_extend (pv 1) (pa_cons (pe_callH h_cells_in hr (pa_cons (pv 2) pa_nil)) pa_nil)))))
      (pss_one (ps_ret (pe_callB (call_sortSet rfl) rfl (B.of rfl) boot_sortedF (pa_cons (pe_callTy (call_setR rfl) rfl z_set boot_setT (pa_cons (pv 1) pa_nil)) pa_nil))))))), ?_⟩
    refine ⟨_, rfl, L, us, hs, S, rfl, hL, hv, ok, fun H1 s1 => ?_⟩
    refine ⟨Nat.zero_le _, fun p hp => ?_⟩
    have hp0 : H p = none := s1.free hp
    have npL : L ≠ p := ne_of_none hL hp0
    refine ⟨_, rfl, L, rfl, ⟨us, SqL.of (by rw [upd_ne npL]; exact s1 _ _ hL)⟩, for_list (xs := us) (fun i σ H2 => ∃ (o2 : Option V), σ = [some (.ref L), some (.ref p), o2] ∧ Same H H2 ∧ H2 p = some (.lst ((allC (hs.take i)).map V.int)))
      ⟨none, rfl, s1.upd hp, upd_same⟩ (fun i σ H2 _ ⟨_, _, h, _⟩ => SqL.of (h _ _ hL)) ?_ ?_⟩
    · rintro i x σ H2 hx ⟨o2, rfl, s2, e2⟩
      obtain ⟨g, hg, hat⟩ := hv.get hx
      obtain ⟨ns, og⟩ := ok.ok g (List.mem_of_getElem? hg)
      refine ⟨_, rfl, .inl ⟨rfl, _, SqL.of e2⟩, ?_⟩
      refine ⟨_, rfl, x, g, ns, rfl, HAt.same s2 hat, og, fun D H4 s4 hD eD => ?_⟩
      have hsub : ∀ h ∈ hs.take (i + 1), h ∈ hs := fun h hh => List.mem_of_mem_take hh
      have hlt : (allC (hs.take (i + 1))).length ≤ 6 := by
        have h1 := ok.clen hsub
        have h2 := ok.len
        rw [List.length_take] at h1
        omega
      refine ⟨p, D, _, _, rfl, rfl, s4 _ _ e2, eD, ?_, ?_⟩
      · rw [← List.length_append, ← List.map_append, ← allC_take hg, List.length_map]
        exact Nat.le_of_lt (sl_lt (by omega))
      rw [← List.map_append, ← allC_take hg]
      exact ⟨_, rfl, (s2.trans s4).at hp0, upd_same⟩
    · rintro σ H2 ⟨o2, rfl, s2, e2⟩
      rw [hv.len, List.take_length] at e2
      have hc := ok.clen (l := hs) (fun h hh => hh)
      have h3 := ok.len
      refine ⟨_, rfl, p, _, rfl, e2, by omega, fun q hq => ?_⟩
      have s6 : Same H2 (upd H2 q (SetO P w q (uniq (allC hs)))) := (Same.refl H2).upd hq
      refine ⟨q, _, rfl, upd_same, by have := ok.few (l := hs) (fun h hh => hh); omega, fun l ns hl hpm hso => ?_⟩
      exact k l ns _ ((s2.trans s6).upd hl) ((s2.trans s6).free hl) upd_same hpm hso
end
end Mh
set_option Elab.async false
set_option linter.all false
set_option maxRecDepth 100000
set_option maxHeartbeats 1600000
namespace Mh
open PySem L2 PyProof.Rows
theorem rest_bit {vs : List V} (h : Rest ["bit"] vs) : ∃ b, vs = [.int (b2i b)] := by
  cases h with
  | bit hb h =>
    cases h
    obtain ⟨b, rfl⟩ := hb
    exact ⟨b, rfl⟩
theorem rest_bits {vs : List V} (h : Rest ["bit", "bit"] vs) : ∃ b c, vs = [.int (b2i b), .int (b2i c)] := by
  cases h with
  | bit hb h =>
    obtain ⟨b, rfl⟩ := hb
    obtain ⟨c, rfl⟩ := rest_bit h
    exact ⟨b, c, rfl⟩
theorem rest_how {vs : List V} (h : Rest ["how"] vs) : ∃ v, vs = [v] ∧ howV v := by
  cases h with
  | how hb h =>
    cases h
    exact ⟨_, rfl, hb⟩
theorem map_str {ns ms : List Str} (h : ns.map V.str = ms.map V.str) : ns = ms := List.map_inj_right (fun _ _ e => V.str.inj e) |>.mp h
theorem cells_shape {h : Hm} {ns : List Str} (o : okH h ns) : (∃ a, h.c = [a]) ∨ ∃ a b, h.c = [a, b] := by
  obtain ⟨h1, h2⟩ := o.cl
  match hc : h.c with
  | [] => rw [hc] at h1; simp at h1
  | [a] => exact .inl ⟨a, rfl⟩
  | [a, b] => exact .inr ⟨a, b, rfl⟩
  | _ :: _ :: _ :: _ => rw [hc] at h2; simp at h2
theorem names_of {h : Hm} {ns N : List Str} (o : okH h ns) (hw : KTD.datumAt h.w tabP = some (N.map V.str)) : List.replicate h.c.length ("cell" : Str) ++ ns = N := by
  have e := Option.some.inj (o.tab.symm.trans hw)
  unfold namesOf at e
  apply map_str
  rw [← e, List.map_append, List.map_replicate]
theorem cell_ne_bit : ("cell" : Str) ≠ "bit" := by decide +kernel
theorem cell_ne_how : ("cell" : Str) ≠ "how" := by decide +kernel
theorem okH.s1 {h : Hm} {ns : List Str} (o : okH h ns) (hw : KTD.datumAt h.w tabP = some ((["cell", "bit"] : List Str).map V.str)) : ∃ a b, h.c = [a] ∧ h.r = [.int (b2i b)] := by
  have e := names_of o hw
  have hr := o.rest
  rcases cells_shape o with ⟨a, hc⟩ | ⟨a, b, hc⟩
  · rw [hc] at e
    obtain ⟨_, rfl⟩ := List.cons.inj e
    obtain ⟨b, hb⟩ := rest_bit hr
    exact ⟨a, b, hc, hb⟩
  · rw [hc] at e
    exact absurd (List.cons.inj (List.cons.inj e).2).1 cell_ne_bit
theorem okH.c2 {h : Hm} {ns N : List Str} (o : okH h ns) (hw : KTD.datumAt h.w tabP = some ((("cell" : Str) :: ("cell" : Str) :: N : List Str).map V.str)) (hN : ∀ n ∈ ns, n ≠ "cell") : ∃ a b, h.c = [a, b] ∧ ns = N := by
  have e := names_of o hw
  rcases cells_shape o with ⟨a, hc⟩ | ⟨a, b, hc⟩
  · rw [hc] at e
    have e2 := (List.cons.inj e).2
    exact absurd rfl (hN "cell" (by show ("cell" : Str) ∈ ns; rw [show ns = ("cell" : Str) :: N from e2]; simp))
  · rw [hc] at e
    exact ⟨a, b, hc, (List.cons.inj (List.cons.inj e).2).2⟩
theorem Rest.nocell {ns : List Str} {vs : List V} (h : Rest ns vs) : ∀ n ∈ ns, n ≠ "cell" := by
  induction h with
  | nil => intro n h; simp at h
  | bit _ _ ih =>
    intro n hn
    rcases List.mem_cons.mp hn with rfl | hn
    · exact cell_ne_bit.symm
    · exact ih n hn
  | how _ _ ih =>
    intro n hn
    rcases List.mem_cons.mp hn with rfl | hn
    · exact cell_ne_how.symm
    · exact ih n hn
theorem okH.sTurns {h : Hm} {ns : List Str} (o : okH h ns) (hw : KTD.datumAt h.w tabP = some ((["cell", "cell", "bit"] : List Str).map V.str)) : ∃ a b x, h.c = [a, b] ∧ h.r = [.int (b2i x)] := by
  obtain ⟨a, b, hc, rfl⟩ := o.c2 hw o.rest.nocell
  obtain ⟨x, hx⟩ := rest_bit o.rest
  exact ⟨a, b, x, hc, hx⟩
theorem okH.sSets {h : Hm} {ns : List Str} (o : okH h ns) (hw : KTD.datumAt h.w tabP = some ((["cell", "cell", "bit", "bit"] : List Str).map V.str)) : ∃ a b x y, h.c = [a, b] ∧ h.r = [.int (b2i x), .int (b2i y)] := by
  obtain ⟨a, b, hc, rfl⟩ := o.c2 hw o.rest.nocell
  obtain ⟨x, y, hx⟩ := rest_bits o.rest
  exact ⟨a, b, x, y, hc, hx⟩
theorem okH.sOther {h : Hm} {ns : List Str} (o : okH h ns) (hw : KTD.datumAt h.w tabP = some ((["cell", "cell"] : List Str).map V.str)) : ∃ a b, h.c = [a, b] ∧ h.r = [] := by
  obtain ⟨a, b, hc, rfl⟩ := o.c2 hw o.rest.nocell
  have := o.rest
  cases hr : h.r with
  | nil => exact ⟨a, b, hc, rfl⟩
  | cons v l => rw [hr] at this; cases this
theorem okH.sBoth {h : Hm} {ns : List Str} (o : okH h ns) (hw : KTD.datumAt h.w tabP = some ((["cell", "cell", "how"] : List Str).map V.str)) : ∃ a b v, h.c = [a, b] ∧ h.r = [v] ∧ howV v := by
  obtain ⟨a, b, hc, rfl⟩ := o.c2 hw o.rest.nocell
  obtain ⟨v, hv, hw⟩ := rest_how o.rest
  exact ⟨a, b, v, hc, hv, hw⟩
theorem tab_ones {s : Str} (h : s = "stuck" ∨ s = "slow" ∨ s = "forgets" ∨ s = "misreads" ∨ s = "nowhere") : KTD.datumAt s tabP = some ((["cell", "bit"] : List Str).map V.str) := by
  rcases h with rfl | rfl | rfl | rfl | rfl <;> decide +kernel
theorem tab_turns : KTD.datumAt ("turns" : Str) tabP = some ((["cell", "cell", "bit"] : List Str).map V.str) := by decide +kernel
theorem tab_sets {s : Str} (h : s = "sets" ∨ s = "keeps") : KTD.datumAt s tabP = some ((["cell", "cell", "bit", "bit"] : List Str).map V.str) := by
  rcases h with rfl | rfl <;> decide +kernel
theorem tab_other : KTD.datumAt ("other" : Str) tabP = some ((["cell", "cell"] : List Str).map V.str) := by decide +kernel
theorem tab_both : KTD.datumAt ("both" : Str) tabP = some ((["cell", "cell", "how"] : List Str).map V.str) := by decide +kernel
end Mh
set_option Elab.async false
set_option linter.all false
set_option maxRecDepth 100000
set_option maxHeartbeats 1600000
namespace Mh
open PySem L2 PyProof.Rows
def Oks (hs : List Hm) : Prop := ∀ h ∈ hs, ∃ ns, okH h ns
section
variable {P : Program} {w : World} {K : PySem.W.Frag} {mg : Str → Option Value} {base : Heap}
end
end Mh
set_option Elab.async false
set_option linter.all false
set_option maxRecDepth 100000
set_option maxHeartbeats 1600000
namespace Mh
open PySem L2 PyProof.Rows
section
variable {P : Program} {w : World} {K : PySem.W.Frag} {mg : Str → Option Value} {base : Heap}
end
end Mh
set_option Elab.async false
set_option linter.all false
set_option maxRecDepth 100000
set_option maxHeartbeats 1600000
namespace Mh
open PySem L2 PyProof.Rows Mx
def InR (hs : List Hm) (n : Nat) : Prop := ∀ h ∈ hs, ∀ c ∈ h.c, 0 ≤ c ∧ c < n
theorem dS {a b : Str} : decide (V.str a = V.str b) = decide (a = b) := by
  by_cases h : a = b
  · subst h; simp
  · rw [decide_eq_false h, decide_eq_false (fun z => h (V.str.inj z))]
section
variable {P : Program} {w : World} {K : PySem.W.Frag} {mg : Str → Option Value} {base : Heap}
end
end Mh
set_option Elab.async false
set_option linter.all false
set_option maxRecDepth 100000
set_option maxHeartbeats 1600000
namespace Mh
open PySem L2 PyProof.Rows Mx
theorem eqS {a s : Str} : (eqV (.str a) (.str s) = true) = (s = a) := by
  show ((a == s) = true) = _
  rw [beq_iff_eq]
  exact propext eq_comm
theorem in2 {s a b : Str} : inV (.str s) [.str a, .str b] = decide (s = a ∨ s = b) := by
  unfold inV
  rw [Bool.eq_iff_iff]
  simp [eqS]
section
variable {P : Program} {w : World} {K : PySem.W.Frag} {mg : Str → Option Value} {base : Heap}
end
end Mh
set_option Elab.async false
set_option linter.all false
set_option maxRecDepth 100000
set_option maxHeartbeats 1600000
namespace Mh
open PySem L2 PyProof.Rows Mx
section
variable {P : Program} {w : World} {K : PySem.W.Frag} {mg : Str → Option Value} {base : Heap}
end
end Mh
set_option Elab.async false
set_option linter.all false
set_option maxRecDepth 100000
set_option maxHeartbeats 1600000
namespace Mh
open PySem L2 PyProof.Rows Mx
section
variable {P : Program} {w : World} {K : PySem.W.Frag} {mg : Str → Option Value} {base : Heap}
end
end Mh
set_option Elab.async false
set_option linter.all false
set_option maxRecDepth 100000
set_option maxHeartbeats 1600000
namespace Mh
open PySem L2 PyProof.Rows Mx
section
variable {P : Program} {w : World} {K : PySem.W.Frag} {mg : Str → Option Value} {base : Heap}
end
end Mh
set_option Elab.async false
set_option linter.all false
set_option maxRecDepth 100000
set_option maxHeartbeats 1600000
namespace Mh
open PySem L2 PyProof.Rows Mx
theorem datum_mem {s : Str} {x : List V} : ∀ {D : List (Str × List V)}, KTD.datumAt s D = some x → s ∈ D.map (·.1)
  | [], h => by simp [KTD.datumAt] at h
  | (k, y) :: D, h => by
    unfold KTD.datumAt at h
    by_cases e : s = k
    · subst e; simp
    · simp [e] at h
      have := datum_mem h
      simp at this ⊢
      exact .inr this
theorem words_ok : ∀ s ∈ tabP.map (·.1), PyData.canLay0 (.str s) = true := by decide +kernel
theorem Rest.fl {ns : List Str} {vs : List V} (h : Rest ns vs) : Fl vs := by
  induction h with
  | nil => exact ⟨rfl, rfl⟩
  | bit hb _ ih =>
    obtain ⟨b, rfl⟩ := hb
    exact ⟨by rw [List.all_cons]; exact ih.1, by simpa [PyData.canLayAll0, dOf, PyData.canLay0] using ih.2⟩
  | how hb _ ih =>
    have e : PyData.canLay0 (.str "and") = true ∧ PyData.canLay0 (.str "or") = true := by decide +kernel
    rcases hb with rfl | rfl
    · exact ⟨by rw [List.all_cons]; exact ih.1, by simp only [List.map_cons, PyData.canLayAll0, dOf, e.1, Bool.true_and]; exact ih.2⟩
    · exact ⟨by rw [List.all_cons]; exact ih.1, by simp only [List.map_cons, PyData.canLayAll0, dOf, e.2, Bool.true_and]; exact ih.2⟩
theorem fl_ints (l : List Int) {vs : List V} (h : Fl vs) : Fl (l.map V.int ++ vs) := by
  induction l with
  | nil => exact h
  | cons a l ih => exact ⟨by show (V.int a :: (l.map V.int ++ vs)).all flatV = true; rw [List.all_cons]; exact ih.1, by simpa [PyData.canLayAll0, dOf, PyData.canLay0] using ih.2⟩
theorem okH.fl {h : Hm} {ns : List Str} (o : okH h ns) : Fl (hV h) := by
  have f := fl_ints h.c o.rest.fl
  unfold hV
  refine ⟨by rw [List.all_cons]; exact f.1, ?_⟩
  simp only [List.map_cons, PyData.canLayAll0, dOf, words_ok _ (datum_mem o.tab), Bool.true_and]
  exact f.2
section
variable {P : Program} {w : World} {K : PySem.W.Frag} {mg : Str → Option Value} {base : Heap}
end
end Mh
set_option Elab.async false
set_option linter.all false
set_option maxRecDepth 100000
set_option maxHeartbeats 1600000
namespace Mh
open PySem L2 PyProof.Rows Mx
section
variable {P : Program} {w : World} {K : PySem.W.Frag} {mg : Str → Option Value} {base : Heap}
end
end Mh
set_option Elab.async false
set_option linter.all false
set_option maxRecDepth 100000
set_option maxHeartbeats 1600000
namespace Mh
open PySem L2 PyProof.Rows Mx
section
variable {P : Program} {w : World} {K : PySem.W.Frag} {mg : Str → Option Value} {base : Heap}
end
end Mh
set_option Elab.async false
set_option linter.all false
set_option maxRecDepth 100000
set_option maxHeartbeats 4000000
namespace Mh
open PySem L2 PyProof.Rows Mx
def Dig (ds zs : List Int) : Prop := ds.length = zs.length ∧ ∀ (i : Nat) d z, ds[i]? = some d → zs[i]? = some z → 0 ≤ d ∧ d < z
theorem Dig.get {ds zs : List Int} (h : Dig ds zs) {i : Nat} {z : Int} (hz : zs[i]? = some z) : ∃ d, ds[i]? = some d ∧ 0 ≤ d ∧ d < z := by
  have hi : i < ds.length := by rw [h.1]; exact (List.getElem?_eq_some_iff.mp hz).1
  exact ⟨ds[i], by simp [hi], h.2 i _ z (by simp [hi]) hz⟩
theorem int_get {ds : List Int} {i : Nat} {v : V} (h : (ds.map V.int)[i]? = some v) : ∃ d, ds[i]? = some d ∧ v = .int d := map_get h
theorem get_int {ds : List Int} {i : Nat} {d : Int} (h : ds[i]? = some d) : (ds.map V.int)[i]? = some (.int d) := by rw [List.getElem?_map, h]; rfl
section
variable {P : Program} {w : World} {K : PySem.W.Frag} {mg : Str → Option Value} {base : Heap}
def sp_digits : Sp := fun vs H Q _ => ∃ c t a zs, vs = [.int c, .int t, .ref a] ∧ H a = some (.lst (zs.map V.int)) ∧ zs.length ≤ 100 ∧ (∀ z ∈ zs, 0 < z ∧ z ≤ 1000) ∧ 0 ≤ t ∧ t ≤ 1000000 ∧
  ∀ p ds H', Same H H' → H p = none → H' p = some (.lst (ds.map V.int)) → Dig ds zs → Q (.ref p) H'
abbrev s__law_digits : Stmt := top 26
theorem sc__law_digits : FnScope ["_law_cell", "_law_turn", "_law_sizes", "_law_number", "_law_wide", "_law_seed", "_law_found", "_law_k", "_law_size"] ["_law_cell", "_law_turn", "_law_sizes"] (defScope s__law_digits) := ⟨rfl, rfl, rfl, by decide +kernel, rfl, by decide +kernel, by decide +kernel⟩
/- slots: 0 _law_cell, 1 _law_turn, 2 _law_sizes, 3 _law_number, 4 _law_wide, 5 _law_seed, 6 _law_found, 7 _law_k, 8 _law_size -/
theorem ok_digits (B : Bl mg) (F : FnAt K mg "_law_digits" s__law_digits ["_law_cell", "_law_turn", "_law_sizes"]) : Has P w K mg base 1 "_law_digits" ["_law_cell", "_law_turn", "_law_sizes"] sp_digits := by
  refine Has.of F sc__law_digits (fun vs H Q E h => ?_) (fun f cdv A outer s H vs Q E hr h => ?_)
  · obtain ⟨c, t, a, zs, rfl, _⟩ := h
    rfl
  · obtain ⟨c, t, a, zs, rfl, ha, hl, hz, ht0, ht1, k⟩ := h
    have sc := sc__law_digits
    refine ⟨_, (pss_cons (ps_set (i := 3) sc.nd rfl (Or.inl rfl) (pe_callB call_abs rfl (B.of rfl) boot_abs (pa_cons (pv 0) pa_nil)))
      (pss_cons (ps_set (i := 4) sc.nd rfl (Or.inl rfl) (pe_cmpR op_ge (pv 3) (pe_op op_pow pe_int pe_int) (nomark _)))
      (pss_cons (ps_set (i := 5) sc.nd rfl (Or.inl rfl) (pe_op op_add (pe_op op_mod (pv 3) pe_int) (pe_op op_mul pe_int (pv 1))))
      (pss_cons (ps_set (i := 6) sc.nd rfl (Or.inl rfl) (pe_lst pa_nil))
      (pss_cons (ps_for PassesOwn.never rfl (pi_enum rfl (B.of rfl) (pa_cons (pv 2) pa_nil)) (pg_tup rfl (pgs_cons (pg_name (i := 7) sc.nd rfl (Or.inl rfl)) (pgs_cons (pg_name (i := 8) sc.nd rfl (Or.inl rfl)) pgs_nil)))
        (pss_one (ps_if (PW.pt (pw_and (pt_val (pv 4)) (pw_and1 (pt_cmpR op_gt (pv 3) pe_int (nomark _)))))
          (pss_cons (ps_expr (pe_bm PySem.F.plainAttrs_list PySem.F.slot_list_append PySem.F.type_list_append mt_append (pv 6) (pa_cons (pe_op op_mod (pv 3) (pv 8)) pa_nil)))
          (pss_one (ps_set (i := 3) sc.nd rfl (Or.inl rfl) (pe_op op_fdiv (pv 3) (pv 8)))))
          (pss_cons (ps_set (i := 5) sc.nd rfl (Or.inl rfl) (pe_op op_mod (pe_op op_pow (pe_op op_add (pv 5) (pe_op op_mul pe_int (pe_op op_add (pv 7) pe_int))) pe_int) pe_int))
          (pss_one (ps_expr (pe_bm PySem.F.plainAttrs_list PySem.F.slot_list_append PySem.F.type_list_append mt_append (pv 6) (pa_cons (pe_op op_mod (pe_op op_fdiv (pv 5) pe_int) (pv 8)) pa_nil))))))))
      (pss_one (ps_ret (pv 6)))))))), ?_⟩
    refine ⟨_, rfl, c, rfl, ?_⟩
    refine ⟨_, rfl, 10, 18, rfl, rfl, ⟨by decide, by decide, by decide⟩, _, _, rfl, rfl, ?_⟩
    refine ⟨_, rfl, _, _, rfl, rfl, (by show (0 : Int) < 2147483647; decide), _, rfl, _, _, rfl, rfl, .inl ⟨by decide, by decide⟩, _, _, rfl, rfl, ?_⟩
    refine ⟨Nat.zero_le _, fun p hp => ?_⟩
    generalize hnum : (if c < 0 then -c else c) = num
    generalize hwd : decide ((10 : Int) ^ (18 : Int).toNat ≤ num) = wd
    have hs0 : 0 ≤ num % 2147483647 + 7919 * t := by have := Int.emod_nonneg num (show (2147483647 : Int) ≠ 0 by decide); omega
    have hs1 : num % 2147483647 + 7919 * t < 2 ^ 40 := by have := Int.emod_lt_of_pos num (show (0 : Int) < 2147483647 by decide); omega
    refine ⟨_, rfl, a, _, rfl, SqL.of (by rw [upd_ne (ne_of_none ha hp)]; exact ha), for_enum (xs := zs.map V.int) (fun i σ H2 => ∃ (nu seed : Int) (ds : List Int) (q1 q2 : Option V), σ = [some (.int c), some (.int t), some (.ref a), some (.int nu), some (.bl wd), some (.int seed), some (.ref p), q1, q2] ∧
      Same H H2 ∧ H2 p = some (.lst (ds.map V.int)) ∧ ds.length = i ∧ (∀ (j : Nat) d z, ds[j]? = some d → zs[j]? = some z → 0 ≤ d ∧ d < z) ∧ 0 ≤ seed ∧ seed < 2 ^ 40) ?_ (fun i σ H2 _ ⟨_, _, _, _, _, _, s2, _⟩ => SqL.of (s2 _ _ ha)) ?_ ?_⟩
    · exact ⟨num, _, [], none, none, by rw [← hwd]; rfl, (Same.refl H).upd hp, upd_same, rfl, fun j d z h => by simp at h, hs0, hs1⟩
    · rintro i x pp σ H2 hx ⟨nu, seed, ds, q1, q2, rfl, s2, hp2, hln, hds, hse0, hse1⟩ hpp
      obtain ⟨z, hzi, rfl⟩ := int_get hx
      obtain ⟨hz0, hz1⟩ := hz z (List.mem_of_getElem? hzi)
      have hil : i < zs.length := (List.getElem?_eq_some_iff.mp hzi).1
      have s3 : Same H (upd H2 pp (.tup [.int i, .int z])) := s2.upd hpp
      have hp3 : upd H2 pp (.tup [.int i, .int z]) p = some (.lst (ds.map V.int)) := by rw [upd_ne (ne_of_none hp2 hpp)]; exact hp2
      have fin : ∀ (d : Int), 0 ≤ d → d < z → ∀ (j : Nat) d' z', (ds ++ [d])[j]? = some d' → zs[j]? = some z' → 0 ≤ d' ∧ d' < z' := fun d h0 h1 j d' z' hj hj2 => by
        by_cases hlt : j < ds.length
        · rw [List.getElem?_append_left hlt] at hj
          exact hds j d' z' hj hj2
        · rw [List.getElem?_append_right (by omega)] at hj
          have hj0 : j - ds.length = 0 := by
            cases q : j - ds.length with
            | zero => rfl
            | succ n => rw [q] at hj; simp at hj
          rw [hj0] at hj
          have e1 : d = d' := by simpa using hj
          have e2 : j = i := by omega
          subst e1 e2
          rw [hzi] at hj2; cases hj2
          exact ⟨h0, h1⟩
      refine ⟨pp, _, rfl, SqT.of upd_same, rfl, _, _, rfl, _, _, rfl, rfl, ?_⟩
      refine ⟨_, rfl, wd, rfl, ?_⟩
      cases wd with
      | true =>
        refine iteT ⟨_, rfl, _, _, rfl, rfl, _, rfl, ?_⟩
        by_cases hn : 0 < nu
        · refine iteD hn ?_
          refine ⟨_, rfl, .inl ⟨rfl, _, SqL.of hp3⟩, _, rfl, _, rfl, _, _, rfl, rfl, hz0, p, _, _, rfl, rfl, hp3, sl_lt (by rw [List.length_map]; omega), ?_⟩
          refine ⟨_, rfl, _, rfl, _, _, rfl, rfl, ⟨hz0, by omega⟩, ?_⟩
          exact ⟨_, seed, ds ++ [nu % z], _, _, rfl, s3.at hp, by rw [List.map_append]; exact upd_same, by simp [hln], fin _ (Int.emod_nonneg _ (by omega)) (Int.emod_lt_of_pos _ hz0), hse0, hse1⟩
        · refine iteN (decide_eq_false hn) ?_
          refine ⟨_, rfl, _, rfl, _, _, rfl, rfl, _, _, rfl, rfl, .inl ⟨by decide, by decide⟩, _, _, rfl, rfl, _, _, rfl, rfl, ⟨by decide, by decide, by omega⟩, _, _, rfl, rfl, (by show (0 : Int) < 2147483587; decide), ?_⟩
          have g0 := Int.emod_nonneg ((seed + 104729 * ((i : Int) + 1)) ^ (2 : Int).toNat) (show (2147483587 : Int) ≠ 0 by decide)
          have g1 := Int.emod_lt_of_pos ((seed + 104729 * ((i : Int) + 1)) ^ (2 : Int).toNat) (show (0 : Int) < 2147483587 by decide)
          generalize hse' : (seed + 104729 * ((i : Int) + 1)) ^ (2 : Int).toNat % 2147483587 = seed' at g0 g1
          refine ⟨_, rfl, .inl ⟨rfl, _, SqL.of hp3⟩, _, rfl, _, _, rfl, rfl, ⟨by decide, by decide⟩, _, rfl, _, _, rfl, rfl, hz0, p, _, _, rfl, rfl, hp3, sl_lt (by rw [List.length_map]; omega), ?_⟩
          exact ⟨nu, seed', ds ++ [seed' / 16 % z], _, _, by rw [← hse']; rfl, s3.at hp, by rw [List.map_append, ← hse']; exact upd_same, by simp [hln], fin _ (Int.emod_nonneg _ (by omega)) (Int.emod_lt_of_pos _ hz0), g0, by omega⟩
      | false =>
        refine iteF (iteF ?_)
        refine ⟨_, rfl, _, rfl, _, _, rfl, rfl, _, _, rfl, rfl, .inl ⟨by decide, by decide⟩, _, _, rfl, rfl, _, _, rfl, rfl, ⟨by decide, by decide, by omega⟩, _, _, rfl, rfl, (by show (0 : Int) < 2147483587; decide), ?_⟩
        have g0 := Int.emod_nonneg ((seed + 104729 * ((i : Int) + 1)) ^ (2 : Int).toNat) (show (2147483587 : Int) ≠ 0 by decide)
        have g1 := Int.emod_lt_of_pos ((seed + 104729 * ((i : Int) + 1)) ^ (2 : Int).toNat) (show (0 : Int) < 2147483587 by decide)
        generalize hse' : (seed + 104729 * ((i : Int) + 1)) ^ (2 : Int).toNat % 2147483587 = seed' at g0 g1
        refine ⟨_, rfl, .inl ⟨rfl, _, SqL.of hp3⟩, _, rfl, _, _, rfl, rfl, ⟨by decide, by decide⟩, _, rfl, _, _, rfl, rfl, hz0, p, _, _, rfl, rfl, hp3, sl_lt (by rw [List.length_map]; omega), ?_⟩
        exact ⟨nu, seed', ds ++ [seed' / 16 % z], _, _, by rw [← hse']; rfl, s3.at hp, by rw [List.map_append, ← hse']; exact upd_same, by simp [hln], fin _ (Int.emod_nonneg _ (by omega)) (Int.emod_lt_of_pos _ hz0), g0, by omega⟩
    · rintro σ H2 ⟨nu, seed, ds, q1, q2, rfl, s2, hp2, hln, hds, _, _⟩
      rw [List.length_map] at hln
      exact ⟨_, rfl, k p ds H2 s2 hp hp2 ⟨hln, hds⟩⟩
end
end Mh
set_option Elab.async false
set_option linter.all false
set_option maxRecDepth 100000
set_option maxHeartbeats 4000000
namespace Mh
open PySem L2 PyProof.Rows Mx
def strs_stuck_slow : List Str := ["stuck", "slow", "forgets", "misreads", "turns", "sets", "keeps", "nowhere", "other", "both"]
section
variable {P : Program} {w : World} {K : PySem.W.Frag} {mg : Str → Option Value} {base : Heap}
end
end Mh
set_option Elab.async false
set_option linter.all false
set_option maxRecDepth 100000
set_option maxHeartbeats 4000000
namespace Mh
open PySem L2 PyProof.Rows Mx
theorem bit_of {d : Int} (h0 : 0 ≤ d) (h1 : d < 2) : ∃ b, d = b2i b := by
  rcases (by omega : d = 0 ∨ d = 1) with rfl | rfl
  · exact ⟨false, rfl⟩
  · exact ⟨true, rfl⟩
theorem in5 {s a b c d e : Str} : inV (.str s) (([a, b, c, d, e] : List Str).map V.str) = decide (s = a ∨ s = b ∨ s = c ∨ s = d ∨ s = e) := by
  unfold inV
  rw [Bool.eq_iff_iff]
  simp [eqS]
theorem words_all {s : Str} (h : s ∈ strs_stuck_slow) : (s = "stuck" ∨ s = "slow" ∨ s = "forgets" ∨ s = "misreads" ∨ s = "nowhere") ∨ s = "turns" ∨ (s = "sets" ∨ s = "keeps") ∨ s = "other" ∨ s = "both" := by
  simp [strs_stuck_slow] at h
  rcases h with rfl | rfl | rfl | rfl | rfl | rfl | rfl | rfl | rfl | rfl <;> simp
theorem filter_ne_len {ss : List Int} (nd : ss.Nodup) {a : Int} (ha : a ∈ ss) : (ss.filter fun x => !decide (V.int x = V.int a)).length = ss.length - 1 := by
  induction ss with
  | nil => simp at ha
  | cons x r ih =>
    obtain ⟨h1, h2⟩ := List.nodup_cons.mp nd
    by_cases hx : x = a
    · subst hx
      have : r.filter (fun y => !decide (V.int y = V.int x)) = r := List.filter_eq_self.mpr fun y hy => by
        have : y ≠ x := fun z => h1 (z ▸ hy)
        simp [this]
      rw [List.filter_cons, if_neg (by simp), this]
      simp
    · have ha' : a ∈ r := by
        rcases List.mem_cons.mp ha with h | h
        · exact absurd h.symm hx
        · exact h
      have hp := List.length_pos_of_mem ha'
      rw [List.filter_cons, if_pos (by simp [hx]), List.length_cons, ih h2 ha', List.length_cons]
      omega
section
variable {P : Program} {w : World} {K : PySem.W.Frag} {mg : Str → Option Value} {base : Heap}
def okSome (ss : List Int) (n : Int) : Prop := ss.Nodup ∧ 2 ≤ ss.length ∧ ss.length ≤ 3 ∧ ∀ x ∈ ss, 0 ≤ x ∧ x < n
def sp_harm : Sp := fun vs H Q _ => ∃ (d S : Addr) (d0 d1 d2 d3 d4 : Int) (ss : List Int) (n : Int), vs = [.ref d, .ref S] ∧ H d = some (.lst [.int d0, .int d1, .int d2, .int d3, .int d4]) ∧ 0 ≤ d0 ∧ d0 < 10 ∧ 0 ≤ d1 ∧ 0 ≤ d2 ∧ 0 ≤ d3 ∧ d3 < 2 ∧ 0 ≤ d4 ∧ d4 < 2 ∧
  H S = some (.lst (ss.map V.int)) ∧ okSome ss n ∧ n ≤ 64 ∧ ∀ v h ns H', Same H H' → HAt H' v h → (∀ a, v = .ref a → H a = none) → okH h ns → (∀ c ∈ h.c, c ∈ ss) → Q v H'
abbrev s__law_harm : Stmt := top 27
theorem sc__law_harm : FnScope ["_law_d", "_law_some", "_law_words", "_law_word", "_law_a", "_law_b"] ["_law_d", "_law_some"] (defScope s__law_harm) := ⟨rfl, rfl, rfl, by decide +kernel, rfl, by decide +kernel, by decide +kernel⟩
/- slots: 0 _law_d, 1 _law_some, 2 _law_words, 3 _law_word, 4 _law_a, 5 _law_b; cells: _law_a -/
theorem ok_harm (B : Bl mg) (F : FnAt K mg "_law_harm" s__law_harm ["_law_d", "_law_some"]) : Has P w K mg base 1 "_law_harm" ["_law_d", "_law_some"] sp_harm := by
  refine Has.ofQ F sc__law_harm (fun vs H Q E h => ?_) (fun f cdv A outer s H vs Q E hr h => ?_)
  · obtain ⟨d, S, d0, d1, d2, d3, d4, ss, n, rfl, _⟩ := h
    rfl
  · obtain ⟨d, S, d0, d1, d2, d3, d4, ss, n, rfl, hd, a0, a0', a1, a2, a3, a3', a4, a4', hS, ⟨nd, l2, l3, hr0⟩, hn, k⟩ := h
    have sc := sc__law_harm
    refine ⟨_, (qss_litQ rfl (qss_cons (qs_setE (i := 2) sc.nd rfl (Or.inl rfl) (qe_strs (xs := strs_stuck_slow) (by decide +kernel)))
      (qss_cons (qs_setE (i := 3) sc.nd rfl (Or.inl rfl) (qe_ix ix_list (qe_of (pv 2)) (qe_ix ix_list (qe_of (pv 0)) (qe_of pe_int) (fun _ _ => rfl)) (fun _ _ => rfl)))
      (qss_cons (qs_setE (i := 4) sc.nd rfl (Or.inr rfl) (qe_ix ix_list (qe_of (pv 1)) (qe_op op_mod (qe_ix ix_list (qe_of (pv 0)) (qe_of pe_int) (fun _ _ => rfl)) (qe_callB call_len_seq rfl (B.of rfl) boot_len (qa_nm (qe_of (pv 1)) qa_nil))) (fun _ _ => rfl)))
      (qss_cons (qs_setE (i := 5) sc.nd rfl (Or.inl rfl) (qe_ix ix_list (qe_of (pe_comp rfl (compOk_of rfl) (M := ["_law_cell", "_law_a"]) (ix := [none, some 4]) (pi_list (pv 1)) (fun _ _ _ _ => (pg_name (i := 0) (show List.Nodup (["_law_cell", "_law_a"] : List Str) by decide +kernel) rfl (Or.inl rfl))) (fun _ _ _ _ => (pts_one (pt_cmpR op_ne (pv 0) (pv 1) (nomark _)))) (fun _ _ _ _ => (pv 0)))) (qe_op op_mod (qe_ix ix_list (qe_of (pv 0)) (qe_of pe_int) (fun _ _ => rfl)) (qe_op op_sub (qe_callB call_len_seq rfl (B.of rfl) boot_len (qa_nm (qe_of (pv 1)) qa_nil)) (qe_of pe_int))) (fun _ _ => rfl)))
      (qss_cons (qs_ifT (qt_cmpR op_in_seq (qe_of (pv 3)) (qe_tstrs (xs := ["stuck", "slow", "forgets", "misreads", "nowhere"]) (by decide +kernel)) (by with_unfolding_all rfl))
        (qss_one (qs_retE (qe_tup (qa_nm (qe_of (pv 3)) (qa_nm (qe_of (pv 4)) (qa_sb (qe_ix ix_list (qe_of (pv 0)) (qe_of pe_int) (fun _ _ => rfl)) qa_nil))))))
        qss_nil)
      (qss_cons (qs_ifT (qt_cmpR op_eq (qe_of (pv 3)) (qe_of pe_str) (nomark _))
        (qss_one (qs_retE (qe_tup (qa_nm (qe_of (pv 3)) (qa_nm (qe_of (pv 4)) (qa_nm (qe_of (pv 5)) (qa_sb (qe_ix ix_list (qe_of (pv 0)) (qe_of pe_int) (fun _ _ => rfl)) qa_nil)))))))
        qss_nil)
      (qss_cons (qs_ifT (qt_cmpR op_in_seq (qe_of (pv 3)) (qe_tup (qa_cs (qe_of pe_str) (qa_cs (qe_of pe_str) qa_nil))) (by with_unfolding_all rfl))
        (qss_one (qs_retE (qe_tup (qa_nm (qe_of (pv 3)) (qa_nm (qe_of (pv 4)) (qa_nm (qe_of (pv 5)) (qa_sb (qe_ix ix_list (qe_of (pv 0)) (qe_of pe_int) (fun _ _ => rfl)) (qa_sb (qe_ix ix_list (qe_of (pv 0)) (qe_of pe_int) (fun _ _ => rfl)) qa_nil))))))))
        qss_nil)
      (qss_one (qs_retE (qe_ix ix_list (qe_lst (qa_tp (qe_tup (qa_cs (qe_of pe_str) (qa_nm (qe_of (pv 4)) (qa_nm (qe_of (pv 5)) qa_nil)))) (qa_tp (qe_tup (qa_cs (qe_of pe_str) (qa_nm (qe_of (pv 4)) (qa_nm (qe_of (pv 5)) (qa_sb (qe_ix ix_list (qe_lst (qa_cs (qe_of pe_str) (qa_cs (qe_of pe_str) qa_nil))) (qe_ix ix_list (qe_of (pv 0)) (qe_of pe_int) (fun _ _ => rfl)) (fun _ _ => rfl)) qa_nil))))) qa_nil))) (qe_callTy call_int1 rfl (B.of rfl) boot_int (qa_cp (qe_cmpR op_eq (qe_of (pv 3)) (qe_of pe_str) (nomark _)) qa_nil)) (fun _ _ => rfl)))))))))))), ?_⟩
    have hsl : 10 ≤ sizeLine := by decide
    refine ⟨hsl, fun wp hwp => ?_⟩
    have s1 : Same H (upd H wp (.lst (strs_stuck_slow.map V.str))) := (Same.refl H).upd hwp
    have f1 : upd H wp (.lst (strs_stuck_slow.map V.str)) wp = some (.lst (strs_stuck_slow.map V.str)) := upd_same
    revert s1 f1
    generalize upd H wp (.lst (strs_stuck_slow.map V.str)) = H1
    intro s1 f1
    obtain ⟨word, hword⟩ : ∃ x, strs_stuck_slow[d0.toNat]? = some x := ⟨strs_stuck_slow[d0.toNat]'(by show d0.toNat < 10; omega), List.getElem?_eq_getElem _⟩
    refine ⟨_, rfl, _, rfl, d, _, _, _, rfl, rfl, SqL.of (s1 _ _ hd), atI_lit 0 rfl, wp, _, _, .str word, rfl, rfl, SqL.of f1, atI_int a0 (by rw [List.getElem?_map, hword]; rfl), ?_⟩
    have hwm := words_all (List.mem_of_getElem? hword)
    -- a
    have hm1 := Int.emod_nonneg d1 (show (ss.length : Int) ≠ 0 by omega)
    have hm1' := Int.emod_lt_of_pos d1 (show (0 : Int) < ss.length by omega)
    obtain ⟨a, ha⟩ : ∃ x, ss[(d1 % (ss.length : Int)).toNat]? = some x := ⟨ss[(d1 % (ss.length : Int)).toNat]'(by omega), List.getElem?_eq_getElem _⟩
    refine ⟨_, rfl, _, rfl, d, _, _, _, rfl, rfl, SqL.of (s1 _ _ hd), atI_lit 1 rfl, _, rfl, S, _, rfl, .inl (SqL.of (s1 _ _ hS)), _, _, rfl, rfl, (by rw [List.length_map]; show (0 : Int) < ss.length; omega), S, _, _, .int a, rfl, rfl, SqL.of (s1 _ _ hS), ?_, ?_⟩
    · rw [List.length_map]
      exact atI_int hm1 (get_int ha)
    have ham := List.mem_of_getElem? ha
    -- b
    refine ⟨_, rfl, S, rfl, ⟨_, SqL.of (s1 _ _ hS)⟩, fun D hD => comp_by (n := ss.length) (fun i H' => Same H1 H' ∧ H' D = some (.lst (((ss.take i).filter fun x => !decide (V.int x = V.int a)).map V.int))) ⟨(Same.refl H1).upd hD, upd_same⟩ ?_ ?_⟩
    rotate_left
    · rintro i H2 hi ⟨s2, e2⟩
      have hS2 := s2 _ _ (s1 _ _ hS)
      refine ⟨⟨_, _, SqL.of hS2, by rw [List.getElem?_map, List.getElem?_eq_getElem hi]; rfl⟩, ?_⟩
      rintro x H3 ⟨rfl, hx⟩
      obtain ⟨y, hy, rfl⟩ := map_get (hx _ (SqL.of hS2))
      refine ⟨KeepS.set (KeepS.refl _) rfl, ?_⟩
      refine ⟨_, rfl, _, rfl, rfl, _, rfl, ?_⟩
      have hfl := List.length_filter_le (fun x => !decide (V.int x = V.int a)) (ss.take i)
      have htl : (ss.take i).length ≤ ss.length := by rw [List.length_take]; omega
      rw [List.take_add_one, hy]
      by_cases hya : y = a
      · refine iteN (by simp [hya]) ⟨s2, ?_⟩
        rw [e2]; simp [hya]
      · refine iteB (by simp [hya]) ⟨_, rfl, _, e2, sl_lt (by rw [List.length_map]; omega), s2.at hD, ?_⟩
        rw [upd_same]; simp [hya]
    rintro H2 ⟨s2, e2⟩
    rw [List.take_length] at e2
    refine ⟨⟨_, SqL.of (s2 _ _ (s1 _ _ hS)), by simp⟩, ?_⟩
    have hfl := filter_ne_len nd ham
    have hfm : ∀ x ∈ ss.filter (fun x => !decide (V.int x = V.int a)), x ∈ ss ∧ x ≠ a := fun x hx => by
      obtain ⟨h1, h2⟩ := List.mem_filter.mp hx
      exact ⟨h1, fun z => by subst z; simp at h2⟩
    revert hfl hfm e2
    generalize ss.filter (fun x => !decide (V.int x = V.int a)) = fs
    intro e2 hfl hfm
    have hm2 := Int.emod_nonneg d2 (show ((ss.length : Int) - 1) ≠ 0 by omega)
    have hm2' := Int.emod_lt_of_pos d2 (show (0 : Int) < (ss.length : Int) - 1 by omega)
    obtain ⟨b, hb⟩ : ∃ x, fs[(d2 % ((ss.length : Int) - 1)).toNat]? = some x := ⟨fs[(d2 % ((ss.length : Int) - 1)).toNat]'(by omega), List.getElem?_eq_getElem _⟩
    have s12 := s1.trans s2
    refine ⟨_, rfl, d, _, _, _, rfl, rfl, SqL.of (s12 _ _ hd), atI_lit 2 rfl, _, rfl, S, _, rfl, .inl (SqL.of (s12 _ _ hS)), _, _, rfl, rfl, _, _, rfl, rfl, (by rw [List.length_map]; show (0 : Int) < (ss.length : Int) - 1; omega), D, _, _, .int b, rfl, rfl, SqL.of e2, ?_, ?_⟩
    · rw [List.length_map]
      exact atI_int hm2 (get_int hb)
    obtain ⟨hbm, hba⟩ := hfm b (List.mem_of_getElem? hb)
    obtain ⟨x3, rfl⟩ := bit_of a3 a3'
    obtain ⟨x4, rfl⟩ := bit_of a4 a4'
    have ra := hr0 a ham
    have rb := hr0 b hbm
    have nab : ([a, b] : List Int).Nodup := by simp [Ne.symm hba]
    have rg1 : ∀ x ∈ ([a] : List Int), 0 ≤ x ∧ x < 64 := fun x hx => by rw [List.mem_singleton.mp hx]; exact ⟨ra.1, by omega⟩
    have rg2 : ∀ x ∈ ([a, b] : List Int), 0 ≤ x ∧ x < 64 := fun x hx => by
      simp at hx
      rcases hx with rfl | rfl
      · exact ⟨ra.1, by omega⟩
      · exact ⟨rb.1, by omega⟩
    have mm1 : ∀ c ∈ ([a] : List Int), c ∈ ss := fun c hc => by rw [List.mem_singleton.mp hc]; exact ham
    have mm2 : ∀ c ∈ ([a, b] : List Int), c ∈ ss := fun c hc => by
      simp at hc
      rcases hc with rfl | rfl
      · exact ham
      · exact hbm
    have bx : ∀ x : Bool, bitV (.int (b2i x)) := fun x => ⟨x, rfl⟩
    -- the first sort
    refine ⟨_, rfl, (by show 5 ≤ sizeLine; decide), fun t1 w1 => ⟨t1, _, rfl, .inr (SqT.of upd_same), rfl, rfl, _, rfl, ?_⟩⟩
    rw [in5]
    have s3 : Same H2 (upd H2 t1 (.tup ((["stuck", "slow", "forgets", "misreads", "nowhere"] : List Str).map V.str))) := (Same.refl H2).upd w1
    revert s3
    generalize upd H2 t1 (.tup ((["stuck", "slow", "forgets", "misreads", "nowhere"] : List Str).map V.str)) = H3
    intro s3
    have s13 := s12.trans s3
    by_cases c1 : word = "stuck" ∨ word = "slow" ∨ word = "forgets" ∨ word = "misreads" ∨ word = "nowhere"
    · refine iteD c1 ?_
      refine ⟨_, rfl, _, rfl, _, rfl, d, _, _, _, rfl, rfl, SqL.of (s13 _ _ hd), atI_lit 3 rfl, (by show 3 ≤ sizeLine; decide), fun p hp => ?_⟩
      exact k _ ⟨word, [a], [.int (b2i x3)]⟩ ["bit"] _ (s13.upd hp) ⟨p, rfl, upd_same⟩ (fun a e => by cases e; exact s13.free hp) ⟨tab_ones c1, .bit (bx _) .nil, by simp, by simp, by simp, rg1⟩ mm1
    refine iteDN c1 ?_
    refine ⟨_, rfl, rfl, _, rfl, ?_⟩
    rw [dS]
    by_cases c2 : word = "turns"
    · refine iteD c2 ?_
      refine ⟨_, rfl, _, rfl, _, rfl, _, rfl, d, _, _, _, rfl, rfl, SqL.of (s13 _ _ hd), atI_lit 3 rfl, (by show 4 ≤ sizeLine; decide), fun p hp => ?_⟩
      exact k _ ⟨word, [a, b], [.int (b2i x3)]⟩ ["bit"] _ (s13.upd hp) ⟨p, rfl, upd_same⟩ (fun a e => by cases e; exact s13.free hp) ⟨by rw [c2]; exact tab_turns, .bit (bx _) .nil, by simp, by simp, nab, rg2⟩ mm2
    refine iteDN c2 ?_
    refine ⟨_, rfl, (by show 2 ≤ sizeLine; decide), fun t2 w2 => ⟨t2, _, rfl, .inr (SqT.of upd_same), rfl, rfl, _, rfl, ?_⟩⟩
    rw [in2]
    have s4 : Same H3 (upd H3 t2 (.tup [.str "sets", .str "keeps"])) := (Same.refl H3).upd w2
    revert s4
    generalize upd H3 t2 (.tup [.str "sets", .str "keeps"]) = H4
    intro s4
    have s14 := s13.trans s4
    by_cases c3 : word = "sets" ∨ word = "keeps"
    · refine iteD c3 ?_
      refine ⟨_, rfl, _, rfl, _, rfl, _, rfl, d, _, _, _, rfl, rfl, SqL.of (s14 _ _ hd), atI_lit 3 rfl, _, rfl, d, _, _, _, rfl, rfl, SqL.of (s14 _ _ hd), atI_lit 4 rfl, (by show 5 ≤ sizeLine; decide), fun p hp => ?_⟩
      exact k _ ⟨word, [a, b], [.int (b2i x3), .int (b2i x4)]⟩ ["bit", "bit"] _ (s14.upd hp) ⟨p, rfl, upd_same⟩ (fun a e => by cases e; exact s14.free hp) ⟨tab_sets c3, .bit (bx _) (.bit (bx _) .nil), by simp, by simp, nab, rg2⟩ mm2
    refine iteDN c3 ?_
    have c4 : word = "other" ∨ word = "both" := by
      rcases hwm with h | h | h | h | h
      · exact absurd h c1
      · exact absurd h c2
      · exact absurd h c3
      · exact .inl h
      · exact .inr h
    refine ⟨_, rfl, _, rfl, (by show 3 ≤ sizeLine; decide), fun o1 y1 => ?_⟩
    have s5 : Same H4 (upd H4 o1 (.tup [.str "other", .int a, .int b])) := (Same.refl H4).upd y1
    have f5 : upd H4 o1 (.tup [.str "other", .int a, .int b]) o1 = some (.tup [.str "other", .int a, .int b]) := upd_same
    revert s5 f5
    generalize upd H4 o1 (.tup [.str "other", .int a, .int b]) = H5
    intro s5 f5
    refine ⟨_, rfl, _, rfl, (by show 2 ≤ sizeLine; decide), fun o2 y2 => ?_⟩
    have s6 : Same H5 (upd H5 o2 (.lst [.str "and", .str "or"])) := (Same.refl H5).upd y2
    have f6 : upd H5 o2 (.lst [.str "and", .str "or"]) o2 = some (.lst [.str "and", .str "or"]) := upd_same
    revert s6 f6
    generalize upd H5 o2 (.lst [.str "and", .str "or"]) = H6
    intro s6 f6
    have s16 := (s14.trans s5).trans s6
    obtain ⟨hv, hhv, hho⟩ : ∃ v, atI [V.str "and", .str "or"] (b2i x3) = some v ∧ howV v := by
      cases x3
      · exact ⟨_, rfl, .inl rfl⟩
      · exact ⟨_, rfl, .inr rfl⟩
    refine ⟨_, rfl, d, _, _, _, rfl, rfl, SqL.of (s16 _ _ hd), atI_lit 3 rfl, o2, _, _, hv, rfl, rfl, SqL.of f6, hhv, (by show 4 ≤ sizeLine; decide), fun o3 y3 => ?_⟩
    have s7 : Same H6 (upd H6 o3 (.tup [.str "both", .int a, .int b, hv])) := (Same.refl H6).upd y3
    have f7 : upd H6 o3 (.tup [.str "both", .int a, .int b, hv]) o3 = some (.tup [.str "both", .int a, .int b, hv]) := upd_same
    revert s7 f7
    generalize upd H6 o3 (.tup [.str "both", .int a, .int b, hv]) = H7
    intro s7 f7
    refine ⟨(by show 2 ≤ sizeLine; decide), fun o4 y4 => ?_⟩
    have s8 : Same H7 (upd H7 o4 (.lst [.ref o1, .ref o3])) := (Same.refl H7).upd y4
    have f8 : upd H7 o4 (.lst [.ref o1, .ref o3]) o4 = some (.lst [.ref o1, .ref o3]) := upd_same
    revert s8 f8
    generalize upd H7 o4 (.lst [.ref o1, .ref o3]) = H8
    intro s8 f8
    have s68 := s7.trans s8
    have s18 := s16.trans s68
    refine ⟨_, rfl, rfl, .inr ⟨_, rfl, ?_⟩⟩
    rcases c4 with rfl | rfl
    · refine ⟨o4, _, _, _, rfl, rfl, SqL.of f8, atI_lit 0 rfl (by decide +kernel), ?_⟩
      exact k _ ⟨"other", [a, b], []⟩ [] _ s18 ⟨o1, rfl, (s6.trans s68) _ _ f5⟩ (fun a e => by cases e; exact s14.free y1) ⟨tab_other, .nil, by simp, by simp, nab, rg2⟩ mm2
    · refine ⟨o4, _, _, _, rfl, rfl, SqL.of f8, atI_lit 1 rfl (by decide +kernel), ?_⟩
      exact k _ ⟨"both", [a, b], [hv]⟩ ["how"] _ s18 ⟨o3, rfl, s8 _ _ f7⟩ (fun a e => by cases e; exact s16.free y3) ⟨tab_both, .how hho .nil, by simp, by simp, nab, rg2⟩ mm2
end
end Mh
set_option Elab.async false
set_option linter.all false
set_option maxRecDepth 100000
set_option maxHeartbeats 4000000
namespace Mh
open PySem L2 PyProof.Rows Mx
theorem HsV.snoc {H : Hp} {us : List V} {hs : List Hm} {v : V} {h : Hm} (x : HsV H us hs) (hv : HAt H v h) : HsV H (us ++ [v]) (hs ++ [h]) := by
  refine ⟨by simp [x.len], fun i u g h1 h2 => ?_⟩
  by_cases hi : i < us.length
  · rw [List.getElem?_append_left hi] at h1
    rw [List.getElem?_append_left (by rw [← x.len]; exact hi)] at h2
    exact x.at_ i u g h1 h2
  · rw [List.getElem?_append_right (by omega)] at h1
    rw [List.getElem?_append_right (by rw [← x.len]; omega), ← x.len] at h2
    cases hj : i - us.length with
    | zero => rw [hj] at h1 h2; cases h1; cases h2; exact hv
    | succ n => rw [hj] at h1; simp at h1
theorem take5 {l : List Int} {a : Nat} (h : a + 5 ≤ l.length) : (l.drop a).take 5 = [l.getD a 0, l.getD (a + 1) 0, l.getD (a + 2) 0, l.getD (a + 3) 0, l.getD (a + 4) 0] := by
  have g : ∀ k, k < l.length → l.getD k 0 = l[k]?.getD 0 := fun k _ => List.getD_eq_getElem?_getD ..
  rw [List.drop_eq_getElem_cons (show a < l.length by omega), List.drop_eq_getElem_cons (show a + 1 < l.length by omega), List.drop_eq_getElem_cons (show a + 1 + 1 < l.length by omega), List.drop_eq_getElem_cons (show a + 1 + 1 + 1 < l.length by omega), List.drop_eq_getElem_cons (show a + 1 + 1 + 1 + 1 < l.length by omega)]
  simp only [List.take_succ_cons, List.take_zero, List.getD_eq_getElem?_getD]
  rw [List.getElem?_eq_getElem (show a < l.length by omega), List.getElem?_eq_getElem (show a + 1 < l.length by omega), List.getElem?_eq_getElem (show a + 2 < l.length by omega), List.getElem?_eq_getElem (show a + 3 < l.length by omega), List.getElem?_eq_getElem (show a + 4 < l.length by omega)]
  rfl
theorem cut_mid {xs : List V} {a b : Nat} : cutV xs (some (a : Int)) (some (b : Int)) = (xs.drop (min a xs.length)).take (min b xs.length - min a xs.length) := by
  unfold cutV
  rw [HT.sIx_nat, HT.sIx_nat]
def freeL (ss : List Int) (i : Nat) : List Int := ((List.range i).map fun j : Nat => (j : Int)).filter fun x => !inV (.int x) (ss.map V.int)
theorem inV_ints {x : Int} {ss : List Int} : inV (.int x) (ss.map V.int) = decide (x ∈ ss) := by
  rw [Bool.eq_iff_iff, decide_eq_true_iff]
  unfold inV
  rw [List.any_map, List.any_eq_true]
  constructor
  · rintro ⟨y, hy, h⟩
    have : y = x := by simpa [eqV] using h
    exact this ▸ hy
  · intro h
    exact ⟨x, h, by simp [eqV]⟩
theorem free_mem {ss : List Int} {n : Nat} {x : Int} (h : x ∈ freeL ss n) : 0 ≤ x ∧ x < n ∧ x ∉ ss := by
  obtain ⟨h1, h2⟩ := List.mem_filter.mp h
  obtain ⟨j, hj, rfl⟩ := List.mem_map.mp h1
  have := List.mem_range.mp hj
  rw [inV_ints] at h2
  exact ⟨by omega, by omega, by simpa using h2⟩
theorem free_some {ss : List Int} {n : Nat} (h : ss.length < n) : freeL ss n ≠ [] := by
  intro e
  have hsub : ∀ x ∈ (List.range n).map (fun j : Nat => (j : Int)), x ∈ ss := fun x hx => by
    by_cases hm : x ∈ ss
    · exact hm
    · have : x ∈ freeL ss n := List.mem_filter.mpr ⟨hx, by rw [inV_ints]; simp [hm]⟩
      rw [e] at this; cases this
  have nd : ((List.range n).map (fun j : Nat => (j : Int))).Nodup := by
    rw [List.nodup_iff_pairwise_ne, List.pairwise_map]
    exact List.Pairwise.imp (fun h z => h (by omega)) List.nodup_range
  have := nodup_le nd hsub
  simp at this
  omega
section
variable {P : Program} {w : World} {K : PySem.W.Frag} {mg : Str → Option Value} {base : Heap}
def sp_harms : Sp := fun vs H Q _ => ∃ (c t : Int) (n : Nat), vs = [.int c, .int t, .int n, .int 3] ∧ 0 ≤ t ∧ t ≤ 1000000 ∧ 2 ≤ n ∧ n ≤ 64 ∧
  ∀ (p : Addr) (us : List V) (hs : List Hm) (S : List Int) (H' : Hp), Same H H' → H p = none → H' p = some (.lst us) → HsV H' us hs → okHs hs S → 1 ≤ hs.length → InR hs n → Q (.ref p) H'
abbrev s__law_harms : Stmt := top 28
theorem sc__law_harms : FnScope ["_law_cell", "_law_turn", "_law_size", "_law_most", "_law_d", "_law_some", "_law_k", "_law_free"] ["_law_cell", "_law_turn", "_law_size", "_law_most"] (defScope s__law_harms) := ⟨rfl, rfl, rfl, by decide +kernel, rfl, by decide +kernel, by decide +kernel⟩
/- slots: 0 _law_cell, 1 _law_turn, 2 _law_size, 3 _law_most, 4 _law_d, 5 _law_some, 6 _law_k, 7 _law_free; cells: _law_d, _law_some -/
theorem ok_harms (B : Bl mg) (h__law_digits : Has P w K mg base 1 "_law_digits" ["_law_cell", "_law_turn", "_law_sizes"] sp_digits) (h__law_harm : Has P w K mg base 1 "_law_harm" ["_law_d", "_law_some"] sp_harm) (F : FnAt K mg "_law_harms" s__law_harms ["_law_cell", "_law_turn", "_law_size", "_law_most"]) : Has P w K mg base 2 "_law_harms" ["_law_cell", "_law_turn", "_law_size", "_law_most"] sp_harms := by
  refine Has.ofQ F sc__law_harms (fun vs H Q E h => ?_) (fun f cdv A outer s H vs Q E hr h => ?_)
  · obtain ⟨c, t, n, rfl, _⟩ := h
    rfl
  · obtain ⟨c, t, n, rfl, t0, t1, n2, n64, k⟩ := h
    have sc := sc__law_harms
    refine ⟨_, (qss_litQ rfl (qss_cons (qs_setE (i := 4) sc.nd rfl (Or.inr rfl) (qe_callH h__law_digits hr (qa_nm (qe_of (pv 0)) (qa_nm (qe_of (pv 1)) (qa_bo (qe_op op_cat (qe_lst (qa_nm (qe_of (pv 3)) (qa_nm (qe_of (pv 2)) (qa_nm (qe_of (pv 2)) (qa_nm (qe_of (pv 2)) qa_nil))))) (qe_op op_rep (qe_lst (qa_cs (qe_of pe_int) (qa_cs (qe_of pe_int) (qa_cs (qe_of pe_int) (qa_cs (qe_of pe_int) (qa_cs (qe_of pe_int) qa_nil)))))) (qe_of pe_int))) qa_nil)))))
      (qss_cons (qs_setE (i := 5) sc.nd rfl (Or.inr rfl) (qe_lst (qa_sb (qe_ix ix_list (qe_of (pv 4)) (qe_of pe_int) (fun _ _ => rfl)) qa_nil)))
      (qss_cons (qs_for PassesOwn.never rfl (qi_of (pi_range1 rfl (B.of rfl) (pa_cons pe_int pa_nil))) (pg_name (i := 6) sc.nd rfl (Or.inl rfl))
        (qss_cons (qs_of (ps_setC (i := 7) rfl sc.nd rfl (Or.inl rfl) rfl (compOk_of rfl) (M := ["_law_one", "_law_some"]) (ix := [none, some 5]) (pi_range1 rfl (B.of rfl) (pa_cons (pv 2) pa_nil)) (fun _ _ _ _ => (pg_name (i := 0) (show List.Nodup (["_law_one", "_law_some"] : List Str) by decide +kernel) rfl (Or.inl rfl))) (fun _ _ _ _ => (pts_one (pt_cmpR (op_notIn_seqK (K := K) rfl) (pv 0) (pv 1) (by with_unfolding_all rfl)))) (fun _ _ _ _ => (pv 0))))
        (qss_one (qs_setE (i := 5) sc.nd rfl (Or.inr rfl) (qe_op op_cat (qe_of (pv 5)) (qe_of (pe_slice sl_list (pe_slice sl_list (pv 7) (po_some (pe_op op_mod (pe_ix ix_list (pv 4) (pe_op op_add pe_int (pv 6)) (fun _ _ => rfl)) (pe_callB (call_max2 rfl) rfl (B.of rfl) boot_max (pa_cons pe_int (pa_cons (pe_callB call_len_seq rfl (B.of rfl) boot_len (pa_cons (pv 7) pa_nil)) pa_nil))))) po_none) po_none (po_some pe_int))))))))
      (qss_one (qs_retE (qe_of (pe_comp rfl (compOk_of rfl) (M := ["_law_k", "_law_some", "_law_d"]) (ix := [none, some 5, some 4]) (pi_range1 rfl (B.of rfl) (pa_cons (pe_op op_add pe_int (pe_ix ix_list (pv 4) pe_int (fun _ _ => rfl))) pa_nil)) (fun _ _ _ _ => (pg_name (i := 0) (show List.Nodup (["_law_k", "_law_some", "_law_d"] : List Str) by decide +kernel) rfl (Or.inl rfl))) (fun _ _ _ _ => pts_nil) (fun _ _ _ _ => (pe_callH h__law_harm hr (pa_cons (pe_slice (sl_listK (K := K) rfl) (pv 2) (po_some (pe_op op_add pe_int (pe_op op_mul pe_int (pv 0)))) (po_some (pe_op op_add pe_int (pe_op op_mul pe_int (pv 0))))) (pa_cons (pv 1) pa_nil)))))))))))), ?_⟩
    refine ⟨_, rfl, _, rfl, _, rfl, _, rfl, _, rfl, _, rfl, (by show 4 ≤ sizeLine; decide), fun p1 v1 => ?_⟩
    have s1 : Same H (upd H p1 (.lst [.int 3, .int n, .int n, .int n])) := (Same.refl H).upd v1
    have f1 : upd H p1 (.lst [.int 3, .int n, .int n, .int n]) p1 = some (.lst [.int 3, .int n, .int n, .int n]) := upd_same
    revert s1 f1
    generalize upd H p1 (.lst [.int 3, .int n, .int n, .int n]) = H1
    intro s1 f1
    refine ⟨(by show 5 ≤ sizeLine; decide), fun p2 v2 => ?_⟩
    have s2 : Same H1 (upd H1 p2 (.lst [.int 10, .int 6, .int 6, .int 2, .int 2])) := (Same.refl H1).upd v2
    have f2 : upd H1 p2 (.lst [.int 10, .int 6, .int 6, .int 2, .int 2]) p2 = some (.lst [.int 10, .int 6, .int 6, .int 2, .int 2]) := upd_same
    revert s2 f2
    generalize upd H1 p2 (.lst [.int 10, .int 6, .int 6, .int 2, .int 2]) = H2
    intro s2 f2
    refine ⟨p2, 3, _, rfl, rfl, f2, by decide, by decide, sl_le (by decide), fun p3 v3 => ?_⟩
    have s3 : Same H2 (upd H2 p3 (.lst (List.replicate (3 : Int).toNat [V.int 10, .int 6, .int 6, .int 2, .int 2]).flatten)) := (Same.refl H2).upd v3
    have f3 : upd H2 p3 (.lst (List.replicate (3 : Int).toNat [V.int 10, .int 6, .int 6, .int 2, .int 2]).flatten) p3 = some (.lst (([10, 6, 6, 2, 2, 10, 6, 6, 2, 2, 10, 6, 6, 2, 2] : List Int).map V.int)) := upd_same
    revert s3 f3
    generalize upd H2 p3 (.lst (List.replicate (3 : Int).toNat [V.int 10, .int 6, .int 6, .int 2, .int 2]).flatten) = H3
    intro s3 f3
    refine ⟨p1, p3, _, _, rfl, rfl, (s2.trans s3) _ _ f1, f3, sl_le (by simp), fun p4 v4 => ?_⟩
    have s13 := (s1.trans s2).trans s3
    refine ⟨c, t, p4, [3, n, n, n, 10, 6, 6, 2, 2, 10, 6, 6, 2, 2, 10, 6, 6, 2, 2], rfl, upd_same, by simp, ?_, t0, t1, fun dp ds H5 s5 ndp hdp hD => ?_⟩
    · intro z hz
      simp at hz
      omega
    have s15 : Same H H5 := (s13.upd v4).trans s5
    clear s5
    have dl : ds.length = 19 := hD.1
    obtain ⟨e0, g0, b0, b0'⟩ := hD.get (i := 0) (z := 3) rfl
    obtain ⟨e1, g1, b1, b1'⟩ := hD.get (i := 1) (z := n) rfl
    refine ⟨_, rfl, dp, _, _, _, rfl, rfl, SqL.of hdp, atI_lit 1 (get_int g1), (by show 1 ≤ sizeLine; decide), fun sp v6 => ?_⟩
    have s6 : Same H5 (upd H5 sp (.lst [.int e1])) := (Same.refl H5).upd v6
    have f6 : upd H5 sp (.lst [.int e1]) sp = some (.lst (([e1] : List Int).map V.int)) := upd_same
    revert s6 f6
    generalize upd H5 sp (.lst [.int e1]) = H6
    intro s6 f6
    refine ⟨2, rfl, by decide, by decide, for_range (n := 2) (fun i σ H7 => ∃ (S : Addr) (ss : List Int) (o6 o7 : Option V), σ = [some (.int c), some (.int t), some (.int n), some (.int 3), some (.ref dp), some (.ref S), o6, o7] ∧ Same H5 H7 ∧ H7 S = some (.lst (ss.map V.int)) ∧ ss.Nodup ∧ 1 + min i 1 ≤ ss.length ∧ ss.length ≤ 1 + i ∧ ∀ x ∈ ss, 0 ≤ x ∧ x < n)
      ⟨sp, [e1], none, none, rfl, s6, f6, by simp, by simp, by simp, fun x hx => by rw [List.mem_singleton.mp hx]; exact ⟨b1, b1'⟩⟩ ?_ ?_⟩
    · rintro i σ H7 hi ⟨S, ss, o6, o7, rfl, s7, hS, nd, l1, l2, hin⟩
      refine ⟨_, rfl, _, rfl, by omega, by omega, fun D hD2 => comp_by (n := n) (fun j H' => Same H7 H' ∧ H' D = some (.lst ((freeL ss j).map V.int))) ⟨(Same.refl H7).upd hD2, upd_same⟩ ?_ ?_⟩
      rotate_left
      · rintro j H8 hj ⟨s8, e8⟩
        refine ⟨by show j < _; simpa using hj, ?_⟩
        rintro x H9 ⟨rfl, rfl⟩
        refine ⟨KeepS.set (KeepS.refl _) rfl, ?_⟩
        refine ⟨_, rfl, _, rfl, S, _, rfl, .inl (SqL.of (s8 _ _ hS)), rfl, by simp [flatV], _, rfl, ?_⟩
        have hsn : freeL ss (j + 1) = freeL ss j ++ (if (!inV (.int ((0 : Int) + (j : Int))) (ss.map V.int)) = true then [(0 : Int) + (j : Int)] else []) := by
          unfold freeL
          rw [List.range_succ, List.map_append, List.filter_append, Int.zero_add]
          congr 1
          simp [List.filter_cons]
        have hll : (freeL ss j).length ≤ j := by
          unfold freeL
          refine Nat.le_trans (List.length_filter_le _ _) ?_
          simp
        rw [hsn]
        cases hb : (!inV (.int ((0 : Int) + (j : Int))) (ss.map V.int)) with
        | true =>
          refine iteB (by simpa using hb) ⟨_, rfl, _, e8, sl_lt (by rw [List.length_map]; omega), s8.at hD2, ?_⟩
          rw [upd_same, if_pos rfl, List.map_append]
          rfl
        | false =>
          refine iteN (by simpa using hb) ⟨s8, ?_⟩
          rw [e8, if_neg (by simp), List.append_nil]
      rintro H8 ⟨s8, e8⟩
      refine ⟨by show _ ≤ _; simp, ?_⟩
      obtain ⟨di, gi, ci, ci'⟩ : ∃ d, ds[2 + i]? = some d ∧ 0 ≤ d ∧ d < n := by
        rcases (by omega : i = 0 ∨ i = 1) with rfl | rfl
        · exact hD.get (i := 2) (z := n) rfl
        · exact hD.get (i := 3) (z := n) rfl
      have hm := @free_mem ss n
      have hsome := @free_some ss n
      revert hm hsome e8
      generalize freeL ss n = fs
      intro e8 hm hsome
      have s78 := s7.trans s8
      generalize hM : (if ((fs.map V.int).length : Int) > 1 then ((fs.map V.int).length : Int) else 1) = M
      have hM0 : 0 < M := by rw [← hM]; split <;> omega
      have hM1 : fs ≠ [] → M = fs.length := fun hne => by
        have := List.length_pos_iff.mpr hne
        rw [← hM, List.length_map]; split <;> omega
      have q0 := Int.emod_nonneg di (show M ≠ 0 by omega)
      have q1 := Int.emod_lt_of_pos di hM0
      refine ⟨_, rfl, _, rfl, _, rfl, _, rfl, _, _, rfl, rfl, dp, _, _, .int di, rfl, rfl, SqL.of (s78 _ _ hdp), ?_, _, rfl, D, _, rfl, .inl (SqL.of e8), _, _, rfl, _, _, rfl, rfl, ?_, ?_⟩
      · rw [show (2 : Int) + ((0 : Int) + (i : Int)) = ((2 + i : Nat) : Int) by omega]
        exact atI_nat (get_int gi)
      · show (0 : Int) < (if ((fs.map V.int).length : Int) > 1 then ((fs.map V.int).length : Int) else 1)
        rw [hM]; exact hM0
      show ∃ i', V.int (di % (if ((fs.map V.int).length : Int) > 1 then ((fs.map V.int).length : Int) else 1)) = .int i' ∧ _
      rw [hM]
      refine ⟨_, rfl, D, _, rfl, SqL.of e8, fun c1 y1 => ?_⟩
      refine ⟨1, rfl, c1, _, rfl, SqL.of upd_same, fun c2 y2 => ?_⟩
      have ecut : cutV (cutV (fs.map V.int) (some (di % M)) none) none (some 1) = ((fs.drop (di % M).toNat).take 1).map V.int := by
        rw [show di % M = (((di % M).toNat : Nat) : Int) by omega, cut_drop, show (1 : Int) = ((1 : Nat) : Int) from rfl, cut_take, List.map_take, List.map_drop]
        rfl
      rw [ecut]
      have s9 := ((Same.refl H8).upd (o := .lst (cutV (fs.map V.int) (some (di % M)) none)) y1).upd (o := .lst (((fs.drop (di % M).toNat).take 1).map V.int)) y2
      have f9 : upd (upd H8 c1 (.lst (cutV (fs.map V.int) (some (di % M)) none))) c2 (.lst (((fs.drop (di % M).toNat).take 1).map V.int)) c2 = some (.lst (((fs.drop (di % M).toNat).take 1).map V.int)) := upd_same
      revert s9 f9
      generalize upd (upd H8 c1 (.lst (cutV (fs.map V.int) (some (di % M)) none))) c2 (.lst (((fs.drop (di % M).toNat).take 1).map V.int)) = H9
      intro s9 f9
      refine ⟨S, c2, _, _, rfl, rfl, (s8.trans s9) _ _ hS, f9, sl_le (by simp; omega), fun S2 y3 => ?_⟩
      refine ⟨S2, ss ++ (fs.drop (di % M).toNat).take 1, _, _, rfl, ((s7.trans s8).trans s9).upd y3, by rw [List.map_append]; exact upd_same, ?_, ?_, ?_, ?_⟩
      · rw [List.nodup_append]
        refine ⟨nd, ?_, fun x hx y hy z => ?_⟩
        · cases (fs.drop (di % M).toNat) <;> simp
        · subst z
          exact (hm (List.mem_of_mem_drop (List.mem_of_mem_take hy))).2.2 hx
      · rw [List.length_append, List.length_take, List.length_drop]
        by_cases hlt : ss.length < n
        · have hne := hsome hlt
          have := hM1 hne
          omega
        · omega
      · rw [List.length_append, List.length_take]; omega
      · intro x hx
        rcases List.mem_append.mp hx with hx | hx
        · exact hin x hx
        · have := hm (List.mem_of_mem_drop (List.mem_of_mem_take hx))
          exact ⟨this.1, this.2.1⟩
    · rintro σ H7 ⟨S, ss, o6, o7, rfl, s7, hS, nd, l1, l2, hin⟩
      have ok : okSome ss n := ⟨nd, by simpa using l1, by simpa using l2, hin⟩
      refine ⟨_, rfl, dp, _, _, _, rfl, rfl, SqL.of (s7 _ _ hdp), atI_lit 0 (get_int g0), _, _, rfl, rfl, _, rfl, by omega, by omega, fun D hD2 => comp_by (n := ((1 : Int) + e0).toNat) (fun j H' => ∃ us hs, Same H7 H' ∧ H' D = some (.lst us) ∧ HsV H' us hs ∧ hs.length = j ∧ Oks hs ∧ ∀ h ∈ hs, ∀ c ∈ h.c, c ∈ ss) ⟨[], [], (Same.refl H7).upd hD2, upd_same, ⟨rfl, fun i v h a => by simp at a⟩, rfl, (fun _ h => nomatch h), (fun _ h => nomatch h)⟩ ?_ ?_⟩
      · rintro H8 ⟨us, hs, s8, e8, v8, hl8, ok8, hm8⟩
        refine ⟨by show _ ≤ _; simp, ?_⟩
        refine k D us hs ss H8 ((s15.trans s7).trans s8) ((s15.trans s7).free hD2) e8 v8 ⟨by omega, ok8, by simpa using l2, hm8⟩ (by omega) ?_
        intro h hh c hc
        exact hin c (hm8 h hh c hc)
      · rintro j H8 hj ⟨us, hs, s8, e8, v8, hl8, ok8, hm8⟩
        refine ⟨by show j < _; simpa using hj, ?_⟩
        rintro x H9 ⟨rfl, rfl⟩
        refine ⟨KeepS.set (KeepS.refl _) rfl, yes ?_⟩
        have hj2 : j ≤ 2 := by omega
        refine ⟨_, rfl, _, rfl, _, _, rfl, rfl, .inl ⟨by decide, by decide⟩, _, _, rfl, rfl, _, rfl, _, rfl, _, _, rfl, rfl, .inl ⟨by decide, by decide⟩, _, _, rfl, rfl, _, rfl, dp, _, rfl, SqL.of (s8 _ _ (s7 _ _ hdp)), fun q w1 => ?_⟩
        have ecut : cutV (ds.map V.int) (some ((4 : Int) + 5 * ((0 : Int) + (j : Int)))) (some ((9 : Int) + 5 * ((0 : Int) + (j : Int)))) = [.int (ds.getD (4 + 5 * j) 0), .int (ds.getD (4 + 5 * j + 1) 0), .int (ds.getD (4 + 5 * j + 2) 0), .int (ds.getD (4 + 5 * j + 3) 0), .int (ds.getD (4 + 5 * j + 4) 0)] := by
          rw [show (4 : Int) + 5 * ((0 : Int) + (j : Int)) = ((4 + 5 * j : Nat) : Int) by omega, show (9 : Int) + 5 * ((0 : Int) + (j : Int)) = ((9 + 5 * j : Nat) : Int) by omega, cut_mid, List.length_map, dl, ← List.map_drop, ← List.map_take,
            show min (9 + 5 * j) 19 - min (4 + 5 * j) 19 = 5 by omega, show min (4 + 5 * j) 19 = 4 + 5 * j by omega, take5 (by omega)]
          rfl
        have dig : ∀ (o : Nat) (z : Int), ([3, (n : Int), n, n, 10, 6, 6, 2, 2, 10, 6, 6, 2, 2, 10, 6, 6, 2, 2] : List Int)[4 + 5 * j + o]? = some z → 0 ≤ ds.getD (4 + 5 * j + o) 0 ∧ ds.getD (4 + 5 * j + o) 0 < z := fun o z hz => by
          obtain ⟨d, h1, h2, h3⟩ := hD.get hz
          rw [List.getD_eq_getElem?_getD, h1]
          exact ⟨h2, h3⟩
        have z0 := dig 0 10 (by rcases (by omega : j = 0 ∨ j = 1 ∨ j = 2) with rfl | rfl | rfl <;> rfl)
        have z1 := dig 1 6 (by rcases (by omega : j = 0 ∨ j = 1 ∨ j = 2) with rfl | rfl | rfl <;> rfl)
        have z2 := dig 2 6 (by rcases (by omega : j = 0 ∨ j = 1 ∨ j = 2) with rfl | rfl | rfl <;> rfl)
        have z3 := dig 3 2 (by rcases (by omega : j = 0 ∨ j = 1 ∨ j = 2) with rfl | rfl | rfl <;> rfl)
        have z4 := dig 4 2 (by rcases (by omega : j = 0 ∨ j = 1 ∨ j = 2) with rfl | rfl | rfl <;> rfl)
        have s9 := (Same.refl H9).upd (o := .lst (cutV (ds.map V.int) (some ((4 : Int) + 5 * ((0 : Int) + (j : Int)))) (some ((9 : Int) + 5 * ((0 : Int) + (j : Int)))))) w1
        have f9 := upd_same (H := H9) (a := q) (o := .lst (cutV (ds.map V.int) (some ((4 : Int) + 5 * ((0 : Int) + (j : Int)))) (some ((9 : Int) + 5 * ((0 : Int) + (j : Int))))))
        revert s9 f9
        generalize hHA : upd H9 q (.lst (cutV (ds.map V.int) (some ((4 : Int) + 5 * ((0 : Int) + (j : Int)))) (some ((9 : Int) + 5 * ((0 : Int) + (j : Int)))))) = HA
        intro s9 f9
        rw [ecut] at f9
        refine ⟨_, rfl, q, S, _, _, _, _, _, ss, n, rfl, (by first | exact f9 | (rw [hHA]; exact f9)), z0.1, z0.2, z1.1, z2.1, z3.1, z3.2, z4.1, z4.2, (by first | exact s9 _ _ (s8 _ _ hS) | (rw [hHA]; exact s9 _ _ (s8 _ _ hS))), ok, by omega, fun v h ns HB sB hv nv oh hmem => ?_⟩
        have sB' : Same HA HB := by first | exact sB | (rw [hHA] at sB; exact sB)
        have s9B := s9.trans sB'
        refine ⟨_, s9B _ _ e8, sl_lt (by have := v8.len; omega), us ++ [v], hs ++ [h], (s8.trans s9B).at hD2, upd_same, ?_, by simp [hl8], ?_, ?_⟩
        · have keep : ∀ u g, HAt HB u g → HAt (upd HB D (.lst (us ++ [v]))) u g := fun u g ⟨a, e, ha⟩ => ⟨a, e, by rw [upd_ne (fun z => by subst z; rw [s9B _ _ e8] at ha; cases ha)]; exact ha⟩
          have v9 := v8.same s9B
          exact HsV.snoc ⟨v9.len, fun i u g h1 h2 => keep u g (v9.at_ i u g h1 h2)⟩ (keep v h hv)
        · intro g hg
          rcases List.mem_append.mp hg with hg | hg
          · exact ok8 g hg
          · rw [List.mem_singleton.mp hg]; exact ⟨ns, oh⟩
        · intro g hg
          rcases List.mem_append.mp hg with hg | hg
          · exact hm8 g hg
          · rw [List.mem_singleton.mp hg]; exact hmem
end
end Mh
set_option Elab.async false
set_option linter.all false
set_option maxRecDepth 100000
set_option maxHeartbeats 2000000
namespace L2
open PySem PySem.Spec PyProof.Rows PySem.W Mx
section
variable {P : Program} {w : World} {K : PySem.W.Frag} {mg : Str → Option Value} {base : Heap} {C : Addr}
end
section
variable {X : Cx} {o e : Expr} {es : List Expr} {ta : TE} {t : TA} {C : Addr} {m : Str} {pos apos : Pos} {E : XK}
end
end L2
set_option Elab.async false
set_option linter.all false
set_option maxRecDepth 100000
set_option maxHeartbeats 2000000
namespace L2
open PySem PySem.Spec PyProof.Rows PySem.W
inductive AllX (H : Hp) : List V → List PyData → Prop
  | nil : AllX H [] []
  | cons {v : V} {d : PyData} {vs : List V} {ds : List PyData} : AtX H v d → AllX H vs ds → AllX H (v :: vs) (d :: ds)
theorem AtX.readsX {P : Program} {w : World} {H : Hp} {h : Heap} {v : V} {d : PyData} {u : Value} (ok : HOk P w H h) (a : AtX H v d) (r : RelV v u) : ∃ as, Reads h u d as ∧ (d.hasDict = true → sysModules ∉ as) := by
  rcases a with a | ⟨e, p, ea, hp⟩
  · obtain ⟨as, q⟩ := a.reads ok r
    exact ⟨as, q, fun z => by rw [a.noDict] at z; cases z⟩
  · subst e ea
    cases r
    obtain ⟨_, hm, vs, kv, o, es, ep, e1, e2, e3, e4, e5, _⟩ := ok p _ hp
    cases kv
    have hes : es.toList = [] := by
      revert e5
      generalize es.toList = l
      intro e5
      cases e5
      rfl
    refine ⟨p :: [] ++ [], .dict e1 e2.1 e3 (by rw [hes]; exact .nil) (by rw [hes]; exact .nil), fun _ hmem => ?_⟩
    have : sysModules = p := by simpa using hmem
    rw [this] at hm
    simp at hm
theorem AllX.repr {P : Program} {w : World} {H : Hp} {h : Heap} (ok : HOk P w H h) : ∀ {vs : List V} {ds : List PyData} {us : List Value}, AllX H vs ds → Vals vs us → PyData.showableAll ds = true → (∀ t ∈ PyData.shownAll ds, t.length ≤ sizeLine) →
    ∃ as bs, ReadsAll h us ds as ∧ ReadAtMost h (PyData.depthAll ds) bs ∧ ReprAllK P w bs h (PyData.depthAll ds) us (PyData.shownAll ds)
  | _, _, _, .nil, .nil, _, _ => ⟨_, [], .nil, (fun _ h => nomatch h), by simp only [PyData.shownAll]; exact .nil⟩
  | _, _, _, .cons (d := d) (ds := ds) a x, .cons r rs, hs, hz => by
    have hs' : d.showable = true ∧ PyData.showableAll ds = true := by simpa [PyData.showableAll] using hs
    obtain ⟨as, rd, hsm⟩ := a.readsX ok r
    obtain ⟨b1, hb1, k1⟩ := ReprK.of_reads (prog := P) (w := w) rd hs'.1 hsm (hz _ (by simp only [PyData.shownAll]; exact List.mem_cons_self ..))
    obtain ⟨as2, b2, rd2, hb2, k2⟩ := AllX.repr ok x rs hs'.2 (fun t ht => hz t (by simp only [PyData.shownAll]; exact List.mem_cons_of_mem _ ht))
    refine ⟨_, b1 ++ b2, .cons rd rd2, ?_, ?_⟩
    · intro b hm
      simp only [PyData.depthAll]
      rcases List.mem_append.mp hm with hm | hm
      · obtain ⟨d', as', r', hd'⟩ := hb1 b hm
        exact ⟨d', as', r', Nat.le_trans hd' (Nat.le_max_left _ _)⟩
      · obtain ⟨d', as', r', hd'⟩ := hb2 b hm
        exact ⟨d', as', r', Nat.le_trans hd' (Nat.le_max_right _ _)⟩
    · simp only [PyData.depthAll, PyData.shownAll]
      exact .cons ((k1.more fun b hb => List.mem_append_left _ hb).level_le (Nat.le_max_left _ _)) (k2.more_le (fun b hb => List.mem_append_right _ hb) (Nat.le_max_right _ _))
section
variable {X : Cx}
def rReprXL : List V → Hp → VK → Prop := fun xs H Q => ∃ a vs ds, xs = [.ref a] ∧ H a = some (.lst vs) ∧ vs ≠ [] ∧ AllX H vs ds ∧ (PyData.list ds).showable = true ∧ (PyData.list ds).depth ≤ 60 ∧ (PyData.list ds).shown.length ≤ sizeLine ∧ Q (.str (PyData.list ds).shown) H
theorem call_reprXL {k : Nat} (hr : Room k X.A) : CallR X (.builtin "repr") rReprXL := by
  intro pins s σ H xs us Q I r h
  obtain ⟨a, vs, ds, rfl, hL, hne, hx, hs, hd, hz, q⟩ := h
  cases r with
  | cons r rr =>
    cases rr
    cases r
    obtain ⟨z, its, n, rv, ho⟩ := I.hok _ _ hL
    have hz' : (listText (PyData.shownAll ds)).length ≤ sizeLine := by simpa only [PyData.shown] using hz
    obtain ⟨as, bs, rd, hb, hk⟩ := AllX.repr I.hok hx rv (by simpa [PyData.showable] using hs) (fun t ht => Nat.le_trans (listText_mem_le ht) hz')
    have hna : a ∉ bs := not_mem_of_deeper (.list ho rfl rfl (by simpa using rd)) (by simp only [PyData.depth]; omega) hb
    have hu := hr.units
    simp only [PyData.depth] at hd
    cases hits : its with
    | nil => subst hits; cases rv; exact absurd rfl hne
    | cons x l =>
      subst hits
      refine call_repr_slot (by omega) ⟨_, ho, rfl⟩ F.slot_list_repr.toG ?_
      refine call_list_reprK ho rfl rfl hna (by simpa using hk.length_eq) (fun i y e => hk.item i y (by simpa using e)) hr.gd (fun b _ => Clear.nil b) (by show X.A.units + 1 + (PyData.depthAll ds + 1) < cLine; omega) (fun _ _ z => z) (fun h' u tk hkp => ⟨_, _, rfl, ?_⟩) hz'
      refine ⟨.str _, H, I.kept hkp, ⟨_, rfl⟩, ?_⟩
      simp only [PyData.shown] at q
      exact q
end
end L2
set_option Elab.async false
set_option linter.all false
set_option maxRecDepth 100000
set_option maxHeartbeats 2000000
namespace L2
open PySem PySem.Spec PyProof.Rows PySem.W
section
variable {X : Cx}
end
end L2
set_option Elab.async false
set_option linter.all false
set_option maxRecDepth 100000
set_option maxHeartbeats 2000000
namespace L2
open PySem PyProof.Rows
theorem AtAll.allX {H : Hp} : ∀ {vs : List V} {ds : List PyData}, AtAll H vs ds → AllX H vs ds
  | _, _, .nil => .nil
  | _, _, .cons a r => .cons (.inl a) (AtAll.allX r)
section
variable {K : PySem.W.Frag} {σ : L2.St} {H : Hp} {te tf : TE} {ta : TA} {d : PyData} {ds es : List PyData} {L : List Addr}
end
end L2
set_option Elab.async false
set_option linter.all false
set_option maxRecDepth 100000
namespace L2
open PySem PySem.Spec PyProof.Rows
theorem entry_zip_ga : entryFor table "zip.__getattribute__" = some Builtin.«object.__getattribute__» := by kernel_rfl
theorem zip_no_keys : typeLookup (.type "zip") (Str.ofString "keys") = pure none := am_miss_of_fast (by decide +kernel)
theorem zip_no_hook : typeLookup (.type "zip") (Str.ofString "__getattr__") = pure none := am_miss_of_fast (by decide +kernel)
theorem zip_ga : typeLookup (.type "zip") (Str.ofString "__getattribute__") = pure (some (.builtin "zip.__getattribute__")) := by rw [typeLookup_type, builtinLookup_eq_fast]; kernel_rfl
theorem entry_dict_loop : entryFor table "dict.update.loop" = some Builtin.«dict.update.loop» := by kernel_rfl
theorem plain_dict_loop : plainId "dict.update.loop" = true := by decide +kernel
theorem sub_attr : isSubtype (.type "AttributeError") (.type "AttributeError") = pure true := by rw [isSubtype_type]; kernel_rfl
section
variable {P : Program} {w : World} {A : Around} {E : Value → Shared → Prop} {s : Shared}
/-- a zip has no keys -/
theorem zipKeys {z i o : Addr} {v : Value} {Q : Option Value → Shared → Prop} (gz : IsZip s.heap z i o v) (hh : A.handled = none)
    (k : ∀ (h' : Heap) (tk : Nat), (∀ b o, s.heap.get? b = some o → h'.get? b = some o) → Q none { s with heap := h', toks := tk }) :
    wpAny (model P w) A (getAttr? (.ref z) (Str.ofString "keys")) Q E s := by
  unfold getAttr? getAttrBy? mkText
  refine wpAny_bind (wpAny_bind (wpAny_fresh ?_))
  refine wpAny_pure ?_
  generalize hs : ({ s with toks := s.toks + 1 } : Shared) = s0
  have gz0 : IsZip s0.heap z i o v := by rw [← hs]; exact gz
  have hT0 : s0.TypeIs (.ref z) "zip" := ⟨_, gz0, rfl⟩
  have leaves : ∀ (h' : Heap) (tk : Nat) (e : Addr), s0.heap.NewAttrErr h' e (.ref z) (Str.ofString "keys") → wpAny (model P w) A (do
      let b ← isInstance (.ref e) (.type "AttributeError")
      if b = true then pure none else throw (.ref e)) Q E { s0 with heap := h', toks := tk } := fun h' tk e ne => by
    obtain ⟨t, u, he⟩ := ne.there
    refine wpAny_bind (wpAny_isInstance (T := "AttributeError") (b := true) ⟨_, he, rfl⟩ sub_attr ?_)
    refine wpAny_pure ?_
    have := k h' tk (fun b o g => ne.keeps b o (by rw [← hs]; exact g))
    subst hs
    exact this
  refine wpAny_bind (wpAny_attempt ?_)
  unfold getAttrBy
  refine wpAny_holding ?_
  refine wpAny_bind (wpAny_typeOf hT0 ?_)
  refine wpAny_bind (wpAny_of_eq zip_ga ?_)
  show wpAny _ _ (getAttrByItsOwn _ _ _ _ _ _) _ _ _
  unfold getAttrByItsOwn
  refine wpAny_bind (wpAny_of_eq (a := none) (by rfl) ?_)
  refine wpAny_bind (wpAny_attempt (wpAny_holding ?_))
  show wpAny _ _ (boundAndCalled _ _ _) _ _ _
  unfold boundAndCalled
  refine wpAny_bind (wpAny_of_eq (a := ((Value.builtin "zip.__getattribute__"), [Value.ref z])) (by kernel_rfl) ?_)
  show wpAny _ _ (call (.builtin "zip.__getattribute__") [.ref z, .str _ _]) _ _ _
  refine wpAny_call_entry F.slot_zip_getattribute hT0 entry_zip_ga ?_ (F.args_zip_getattribute_2 _ _)
  have h1 := zip_no_keys
  unfold Builtin.«object.__getattribute__»
  wp_walk
  refine wpAny_raiseAttrError (A := A.in1) hh (fun h' tk e ne => ?_) (by decide +kernel)
  obtain ⟨t, u, he⟩ := id ne.there
  have hT1 : Shared.TypeIs { s0 with heap := h', toks := tk } (.ref e) "AttributeError" := ⟨_, he, rfl⟩
  unfold getattributeRaised
  refine wpAny_bind (wpAny_isInstance (T := "AttributeError") (b := true) hT1 sub_attr ?_)
  rw [if_pos rfl]
  refine wpAny_bind (m := hookBehind _ _) (wpAny_of_eq zip_no_hook ?_)
  unfold hookOrError
  dsimp only
  unfold attributeErrorLeaves
  refine wpAny_bind (m := throw (Value.ref e)) (wpAny_throw ?_)
  exact leaves h' tk e ne
end
end L2
set_option Elab.async false
set_option linter.all false
set_option maxRecDepth 100000
namespace L2
open PySem PySem.Spec PyProof.Rows
open Builtin.SmallTypes (nextOf)
section
variable {prog : Program} {w : World} {A : Around} {E : Value → Shared → Prop} {s : Shared}
abbrev IsZipF (h : Heap) (z TI TO : Addr) (f0 : Value) (fl : Bool) : Prop := h.get? z = some { cls := .type "zip", data := .fields #[f0, .bool fl, .bool false, .ref TI, .ref TO] }
theorem wpAny_ifAlive {M : Model} {a : Addr} {o : Obj} {Q : Option Obj → Shared → Prop} (g : s.heap.get? a = some o) (k : Q (some o) s) : wpAny M A (loadIfAlive a) Q E s := by
  intro Γ p hi
  unfold loadIfAlive
  rw [Sem.wp_loadIfAlive, g]
  exact k
theorem notFree {z TI TO T : Addr} {fl : Bool} {Q : Bool → Shared → Prop} (gz : IsZipF s.heap z TI TO (rawInt T) fl) (gT : ∃ o, s.heap.get? T = some o) (k : ∀ h', IsZipF h' z TI TO (rawInt T) true → Heap.SameBut z s.heap h' → Q false { s with heap := h' }) :
    wpAny (model prog w) A (Builtin.SmallTypes.ownedTupleIsFree (.ref z)) Q E s := by
  obtain ⟨o, gT⟩ := gT
  unfold Builtin.SmallTypes.ownedTupleIsFree
  refine wpAny_bind (wpAny_field gz rfl (x := rawInt T) rfl ?_)
  show wpAny _ _ (loadIfAlive (T : Int).toNat >>= _) _ _ _
  refine wpAny_bind (wpAny_ifAlive (by rw [Int.toNat_natCast]; exact gT) ?_)
  show wpAny _ _ (field (.ref z) 1 >>= _) _ _ _
  refine wpAny_bind (wpAny_field gz rfl (x := .bool fl) rfl ?_)
  cases fl with
  | false =>
    refine wpAny_bind (m := setField (.ref z) 1 (.bool true)) (wpAny_setField_rec gz (by simp) fun m1 gz1 e1 => ?_)
    exact wpAny_pure (k m1 gz1 e1)
  | true =>
    exact wpAny_pure (k s.heap gz (Heap.SameBut.refl _ _))
theorem zipNext2 {n l1 l2 k T : Nat} {fl : Bool} {xs ys : Array Value} {x y : Value} {t1 t2 : Bool} {Q : Value → Shared → Prop} (b1 : l1 < n) (b2 : l2 < n) (gz : IsZipF s.heap (n + 4) (n + 2) (n + 3) (rawInt T) fl) (gi : IsPair s.heap (n + 2) (.ref n) (.ref (n + 1))) (gT : ∃ o, s.heap.get? T = some o)
    (q1 : SIt s.heap t1 n l1 k) (q2 : SIt s.heap t2 (n + 1) l2 k) (o1 : SOf s.heap t1 l1 xs) (o2 : SOf s.heap t2 l2 ys) (hx : xs[k]? = some x) (hy : ys[k]? = some y)
    (kk : ∀ h', IsZipF h' (n + 4) (n + 2) (n + 3) (rawInt T) true → SIt h' t1 n l1 (k + 1) → SIt h' t2 (n + 1) l2 (k + 1) → IsPair h' s.heap.objs.size x y →
      (∀ c o, c ≠ n + 4 → c ≠ n → c ≠ n + 1 → s.heap.get? c = some o → h'.get? c = some o) → Q (.ref s.heap.objs.size) { s with heap := h' }) :
    wpAny (model prog w) A (Builtin.«zip.__next__» ⟨[.ref (n + 4)], []⟩) (fun fin s' => ∃ v, fin = .done (.ret v) ∧ Q v s') E s := by
  show wpAny _ _ (field (.ref (n + 4)) 2 >>= _) _ _ _
  refine wpAny_bind (wpAny_field gz rfl (x := .bool false) rfl ?_)
  show wpAny _ _ (field (.ref (n + 4)) 3 >>= _) _ _ _
  refine wpAny_bind (wpAny_field gz rfl (x := .ref (n + 2)) rfl ?_)
  refine wpAny_bind (wpAny_seqItems gi rfl ?_)
  show wpAny _ _ (Builtin.SmallTypes.ownedTupleIsFree (.ref (n + 4)) >>= _) _ _ _
  refine wpAny_bind (notFree gz gT fun m1 gz1 e1 => ?_)
  rw [if_neg Bool.false_ne_true]
  simp only [List.forIn_toArray, List.forIn_cons, List.forIn_nil]
  refine wpAny_bind (wpAny_bind (wpAny_bind (wpAny_holding ?_)))
  show wpAny _ _ (nextOf (.ref n) >>= _) _ _ _
  refine wpAny_bind (nextOf_item (q1.at fun o g => e1.extBut _ _ (neN (by omega)) g) (o1.at fun o g => e1.extBut _ _ (neN (by omega)) g) hx fun m2 r1 e2 => ?_)
  refine wpAny_pure (wpAny_pure ?_)
  refine wpAny_bind (wpAny_bind (wpAny_holding ?_))
  show wpAny _ _ (nextOf (.ref (n + 1)) >>= _) _ _ _
  refine wpAny_bind (nextOf_item (q2.at fun o g => e2.extBut _ _ (neN (by omega)) (e1.extBut _ _ (neN (by omega)) g)) (o2.at fun o g => e2.extBut _ _ (neN (by omega)) (e1.extBut _ _ (neN (by omega)) g)) hy fun m3 r2 e3 => ?_)
  refine wpAny_pure (wpAny_pure (wpAny_pure ?_))
  show wpAny _ _ (newTuple [x, y] >>= _) _ _ _
  refine wpAny_bind (wpAny_newTuple ?_)
  have hsz : m3.objs.size = s.heap.objs.size := by rw [e3.1, e2.1, e1.1]
  have gz3 : IsZipF m3 (n + 4) (n + 2) (n + 3) (rawInt T) true := e3.extBut _ _ (neN (by omega)) (e2.extBut _ _ (neN (by omega)) gz1)
  have r1' : SIt m3 t1 n l1 (k + 1) := r1.at fun o g => e3.extBut _ _ (neN (by omega)) g
  have up : ∀ c o, m3.get? c = some o → (m3.push { cls := .type "tuple", data := .seq #[x, y] }).get? c = some o := fun c o g => Heap.get?_push_of_some _ g
  refine wpAny_pure ⟨_, rfl, ?_⟩
  have gt : IsPair (m3.push { cls := .type "tuple", data := .seq #[x, y] }) m3.objs.size x y := Heap.get?_push_size _ rfl
  show Q (.ref m3.objs.size) _
  rw [hsz] at gt ⊢
  exact kk _ (up _ _ gz3) (r1'.at fun o g => up _ o g) (r2.at fun o g => up _ o g) gt fun c o d1 d2 d3 g => up c o (e3.extBut _ _ d3 (e2.extBut _ _ d2 (e1.extBut _ _ d1 g)))
theorem zipDone2 {n l1 l2 k T : Nat} {fl : Bool} {xs ys : Array Value} {t1 t2 : Bool} {Q : Fin → Shared → Prop} (hh : A.handled = none) (b1 : l1 < n) (b2 : l2 < n) (gz : IsZipF s.heap (n + 4) (n + 2) (n + 3) (rawInt T) fl) (gi : IsPair s.heap (n + 2) (.ref n) (.ref (n + 1))) (gT : ∃ o, s.heap.get? T = some o)
    (q1 : SIt s.heap t1 n l1 k) (q2 : SIt s.heap t2 (n + 1) l2 k) (o1 : SOf s.heap t1 l1 xs) (o2 : SOf s.heap t2 l2 ys) (hend : xs[k]? = none ∨ ys[k]? = none)
    (kk : ∀ h' e, (∀ c o, c ≠ n + 4 → c ≠ n → c ≠ n + 1 → s.heap.get? c = some o → h'.get? c = some o) → (∃ o, h'.get? e = some o ∧ o.cls = .type "StopIteration") → E (.ref e) { s with heap := h' }) :
    wpAny (model prog w) A (Builtin.«zip.__next__» ⟨[.ref (n + 4)], []⟩) Q E s := by
  show wpAny _ _ (field (.ref (n + 4)) 2 >>= _) _ _ _
  refine wpAny_bind (wpAny_field gz rfl (x := .bool false) rfl ?_)
  show wpAny _ _ (field (.ref (n + 4)) 3 >>= _) _ _ _
  refine wpAny_bind (wpAny_field gz rfl (x := .ref (n + 2)) rfl ?_)
  refine wpAny_bind (wpAny_seqItems gi rfl ?_)
  show wpAny _ _ (Builtin.SmallTypes.ownedTupleIsFree (.ref (n + 4)) >>= _) _ _ _
  refine wpAny_bind (notFree gz gT fun m1 gz1 e1 => ?_)
  rw [if_neg Bool.false_ne_true]
  simp only [List.forIn_toArray, List.forIn_cons, List.forIn_nil]
  refine wpAny_bind (wpAny_bind (wpAny_bind (wpAny_holding ?_)))
  show wpAny _ _ (nextOf (.ref n) >>= _) _ _ _
  have p1 : SIt m1 t1 n l1 k := q1.at fun o g => e1.extBut _ _ (neN (by omega)) g
  have p2 : SOf m1 t1 l1 xs := o1.at fun o g => e1.extBut _ _ (neN (by omega)) g
  cases hx : xs[k]? with
  | none =>
    refine wpAny_bind (nextOf_end hh p1 p2 hx fun m2 e g2 he => ?_)
    exact kk m2 e (fun c o d1 d2 _ g => g2 _ _ d2 (e1.extBut _ _ d1 g)) he
  | some x =>
    have hy : ys[k]? = none := by
      rcases hend with z | z
      · rw [hx] at z; cases z
      · exact z
    refine wpAny_bind (nextOf_item p1 p2 hx fun m2 r1 e2 => ?_)
    refine wpAny_pure (wpAny_pure ?_)
    refine wpAny_bind (wpAny_bind (wpAny_holding ?_))
    show wpAny _ _ (nextOf (.ref (n + 1)) >>= _) _ _ _
    refine wpAny_bind (nextOf_end hh (q2.at fun o g => e2.extBut _ _ (neN (by omega)) (e1.extBut _ _ (neN (by omega)) g)) (o2.at fun o g => e2.extBut _ _ (neN (by omega)) (e1.extBut _ _ (neN (by omega)) g)) hy fun m4 e g4 he => ?_)
    exact kk m4 e (fun c o d1 d2 d3 g => g4 _ _ d3 (e2.extBut _ _ d2 (e1.extBut _ _ d1 g))) he
end
end L2
set_option Elab.async false
set_option linter.all false
set_option maxRecDepth 100000
namespace L2
open PySem PySem.Spec PyProof.Rows
section
variable {P : Program} {w : World} {A : Around} {E : Value → Shared → Prop} {s : Shared}
abbrev fpZ (n : Nat) : List Nat := [n, n + 1, n + 2, n + 3, n + 4]
/-- a zip that hands out tuples which stay -/
def ZS2 (h : Heap) (n : Nat) (t1 t2 : Bool) (l1 l2 : Addr) (i : Nat) : Prop :=
  IsPair h (n + 2) (.ref n) (.ref (n + 1)) ∧ SIt h t1 n l1 i ∧ SIt h t2 (n + 1) l2 i ∧
  ((IsZip h (n + 4) (n + 2) (n + 3) .none ∧ ∃ a b, IsPair h (n + 3) a b) ∨ ∃ (T : Nat) (fl : Bool), IsZipF h (n + 4) (n + 2) (n + 3) (rawInt T) fl ∧ ∃ o, h.get? T = some o)
theorem ZSt.s2 {h : Heap} {n : Nat} {t1 t2 : Bool} {l1 l2 : Addr} {i : Nat} (z : ZSt h n t1 t2 l1 l2 i) : ZS2 h n t1 t2 l1 l2 i := by
  obtain ⟨a, b, gz, gi, go, q1, q2⟩ := z
  exact ⟨gi, q1, q2, .inl ⟨gz, a, b, go⟩⟩
theorem ZS2.lt {h : Heap} {n : Nat} {t1 t2 : Bool} {l1 l2 : Addr} {i : Nat} (z : ZS2 h n t1 t2 l1 l2 i) : n + 4 < h.objs.size := by
  obtain ⟨_, _, _, ⟨g, _⟩ | ⟨_, _, g, _⟩⟩ := z
  · exact Heap.lt_size g
  · exact Heap.lt_size g
theorem ZS2.ty {s : Shared} {n : Nat} {t1 t2 : Bool} {l1 l2 : Addr} {i : Nat} (z : ZS2 s.heap n t1 t2 l1 l2 i) : s.TypeIs (.ref (n + 4)) "zip" := by
  obtain ⟨_, _, _, ⟨g, _⟩ | ⟨_, _, g, _⟩⟩ := z
  · exact ⟨_, g, rfl⟩
  · exact ⟨_, g, rfl⟩
theorem ZS2.at {h h' : Heap} {n : Nat} {t1 t2 : Bool} {l1 l2 : Addr} {i : Nat} (z : ZS2 h n t1 t2 l1 l2 i) (k : ∀ b ob, h.get? b = some ob → ∃ ob', h'.get? b = some ob' ∧ (b ≤ n + 4 → ob' = ob)) : ZS2 h' n t1 t2 l1 l2 i := by
  have k' : ∀ b ob, b ≤ n + 4 → h.get? b = some ob → h'.get? b = some ob := fun b ob hb g => by
    obtain ⟨ob', h1, h2⟩ := k b ob g
    rw [h1, h2 hb]
  obtain ⟨gi, q1, q2, r⟩ := z
  refine ⟨k' _ _ (by omega) gi, q1.at fun o g => k' _ o (by omega) g, q2.at fun o g => k' _ o (by omega) g, ?_⟩
  rcases r with ⟨g, a, b, go⟩ | ⟨T, fl, g, o, gT⟩
  · exact .inl ⟨k' _ _ (by omega) g, a, b, k' _ _ (by omega) go⟩
  · obtain ⟨o', h1, _⟩ := k T o gT
    exact .inr ⟨T, fl, k' _ _ (by omega) g, o', h1⟩
theorem pyNextZ {n l1 l2 i : Nat} {xs ys : Array Value} {x y : Value} {t1 t2 : Bool} {Q : Option Value → Shared → Prop} (b1 : l1 < n) (b2 : l2 < n) (st : ZS2 s.heap n t1 t2 l1 l2 i) (o1 : SOf s.heap t1 l1 xs) (o2 : SOf s.heap t2 l2 ys) (hx : xs[i]? = some x) (hy : ys[i]? = some y)
    (k : ∀ h', ZS2 h' n t1 t2 l1 l2 (i + 1) → h'.get? s.heap.objs.size = some { cls := .type "tuple", data := .seq #[x, y] } → (∀ b ob, b ∉ fpZ n → s.heap.get? b = some ob → h'.get? b = some ob) → Q (some (.ref s.heap.objs.size)) { s with heap := h' }) :
    wpAny (model P w) A (pyNext (.ref (n + 4))) Q E s := by
  have hT := st.ty
  obtain ⟨gi, q1, q2, r⟩ := st
  unfold pyNext
  refine wpAny_bind (wpAny_attempt (wpAny_callSpecial?_slot (name := Str.ofString "__next__") hT F.slot_zip_next (wpAny_call_entry F.slot_zip_next hT F.entry_zip_next ?_ (F.args_zip_next_1 _))))
  rcases r with ⟨gz, a, b, go⟩ | ⟨T, fl, gz, gT⟩
  · refine zipNext b1 b2 gz gi go q1 q2 o1 o2 (x := x) (y := y) hx hy fun h' gz' go' r1 r2 hT' hsz kp => ?_
    refine wpAny_pure (k h' ⟨kp _ _ (neN (by omega)) (neN (by omega)) (neN (by omega)) (neN (by omega)) gi, r1, r2, .inr ⟨_, _, gz', _, hT'⟩⟩ hT' fun b ob hb z => ?_)
    exact kp b ob (fun q => hb (by simp [q])) (fun q => hb (by simp [q])) (fun q => hb (by simp [q])) (fun q => hb (by simp [q])) z
  · obtain ⟨oT, gT⟩ := gT
    refine zipNext2 b1 b2 gz gi ⟨oT, gT⟩ q1 q2 o1 o2 (x := x) (y := y) hx hy fun h' gz' r1 r2 hT' kp => ?_
    have aT : ∃ o, h'.get? T = some o := by
      by_cases h4 : T = n + 4
      · exact ⟨_, by rw [h4]; exact gz'⟩
      · by_cases h0 : T = n
        · obtain ⟨o, g, _⟩ := r1.obj; exact ⟨o, by rw [h0]; exact g⟩
        · by_cases h1 : T = n + 1
          · obtain ⟨o, g, _⟩ := r2.obj; exact ⟨o, by rw [h1]; exact g⟩
          · exact ⟨_, kp T _ h4 h0 h1 gT⟩
    refine wpAny_pure (k h' ⟨kp _ _ (neN (by omega)) (neN (by omega)) (neN (by omega)) gi, r1, r2, .inr ⟨_, _, gz', aT⟩⟩ hT' fun b ob hb z => ?_)
    exact kp b ob (fun q => hb (by simp [q])) (fun q => hb (by simp [q])) (fun q => hb (by simp [q])) z
theorem pyNextZend {n l1 l2 i : Nat} {xs ys : Array Value} {t1 t2 : Bool} {Q : Option Value → Shared → Prop} (hh : A.handled = none) (b1 : l1 < n) (b2 : l2 < n) (st : ZS2 s.heap n t1 t2 l1 l2 i) (o1 : SOf s.heap t1 l1 xs) (o2 : SOf s.heap t2 l2 ys) (hend : xs[i]? = none ∨ ys[i]? = none)
    (k : ∀ h', (∀ b ob, b ∉ fpZ n → s.heap.get? b = some ob → h'.get? b = some ob) → Q none { s with heap := h' }) :
    wpAny (model P w) A (pyNext (.ref (n + 4))) Q E s := by
  have hT := st.ty
  obtain ⟨gi, q1, q2, r⟩ := st
  unfold pyNext
  refine wpAny_bind (wpAny_attempt (wpAny_callSpecial?_slot (name := Str.ofString "__next__") hT F.slot_zip_next (wpAny_call_entry F.slot_zip_next hT F.entry_zip_next ?_ (F.args_zip_next_1 _))))
  have fin : ∀ h' e, (∀ b ob, b ∉ fpZ n → s.heap.get? b = some ob → h'.get? b = some ob) → (∃ o, h'.get? e = some o ∧ o.cls = .type "StopIteration") → wpAny (model P w) A (do
      let b ← isInstance (.ref e) (.type "StopIteration")
      if b = true then pure none else throw (.ref e)) Q E { s with heap := h' } := fun h' e kp he => by
    obtain ⟨o, ho, hce⟩ := he
    exact wpAny_bind (wpAny_isInstance (T := "StopIteration") (b := true) ⟨o, ho, hce⟩ isSubtype_stop (wpAny_pure (k h' kp)))
  rcases r with ⟨gz, a, b, go⟩ | ⟨T, fl, gz, gT⟩
  · exact zipDone hh b1 b2 gz gi go q1 q2 o1 o2 hend fun h' e kp he => fin h' e (fun b ob hb z => kp b ob (fun q => hb (by simp [q])) (fun q => hb (by simp [q])) (fun q => hb (by simp [q])) (fun q => hb (by simp [q])) z) he
  · exact zipDone2 hh b1 b2 gz gi gT q1 q2 o1 o2 hend fun h' e kp he => fin h' e (fun b ob hb z => kp b ob (fun q => hb (by simp [q])) (fun q => hb (by simp [q])) (fun q => hb (by simp [q])) z) he
/-- what is in the dict behind so many pairs -/
def accZ (kf : Nat → Key) (ys : Array Value) : Nat → List (Key × Value)
  | 0 => []
  | i + 1 => stored (accZ kf ys i) (kf i) (ys[i]?.getD .none)
theorem accZ_len (kf : Nat → Key) (ys : Array Value) : ∀ i, (accZ kf ys i).length ≤ i
  | 0 => Nat.le_refl _
  | i + 1 => by
    have := accZ_len kf ys i
    unfold accZ stored
    split
    · rw [List.length_map]; omega
    · rw [List.length_append]; simp; omega
theorem dictLoop {n l1 l2 d m : Nat} {xs ys : Array Value} {kf : Nat → Key} {t1 t2 : Bool} {R : Result → Shared → Prop} (hh : A.handled = none) (b1 : l1 < n) (b2 : l2 < n) (hm : m = min xs.size ys.size) (hz : m ≤ sizeLine) (hk : ∀ i x, xs[i]? = some x → (mixKind P w).is (kf i) x = true) (hd : n + 4 < d) :
    ∀ r i (s : Shared), i + r = m → ZS2 s.heap n t1 t2 l1 l2 i → SOf s.heap t1 l1 xs → SOf s.heap t2 l2 ys → s.heap.DictOf (mixKind P w) d (accZ kf ys i) →
      (∀ h' tk, h'.DictOf (mixKind P w) d (accZ kf ys m) → (∀ b ob, b < n → s.heap.get? b = some ob → h'.get? b = some ob) → R (.ok (.ret .none)) { s with heap := h', toks := tk }) →
      codeAny (model P w) A (.builtin "dict.update.loop" ⟨[.ref d, .ref (n + 4), rawInt i, .none], []⟩) R s := by
  intro r
  have nfp : ∀ b, b < n → b ∉ fpZ n := fun b hb hm => by simp at hm; omega
  have nfd : d ∉ fpZ n := fun hm => by simp at hm; omega
  induction r with
  | zero =>
    intro i s hi st o1 o2 hD k
    refine codeAny_builtin entry_dict_loop ?_
    rw [Around.under_plainId plain_dict_loop _]
    show wpAny _ A.in1 (pyNext (.ref (n + 4)) >>= _) _ _ _
    refine wpAny_bind (pyNextZend (A := A.in1) hh b1 b2 st o1 o2 ?_ fun h' kp => ?_)
    · simp only [Array.getElem?_eq_none_iff]
      omega
    · refine wpAny_bind (m := Builtin.Dict.addKeywords d []) (wpAny_of_eq (a := ()) (by rfl) ?_)
      have e : i = m := by omega
      subst e
      refine wpAny_pure (k h' s.toks (hD.at fun o g => kp d o nfd g) fun b ob hb g => kp b ob (nfp b hb) g)
  | succ r ih =>
    intro i s hi st o1 o2 hD k
    refine codeAny_builtin entry_dict_loop ?_
    rw [Around.under_plainId plain_dict_loop _]
    show wpAny _ A.in1 (pyNext (.ref (n + 4)) >>= _) _ _ _
    obtain ⟨x, hx⟩ : ∃ x, xs[i]? = some x := ⟨_, Array.getElem?_eq_getElem (by omega)⟩
    obtain ⟨y, hy⟩ : ∃ y, ys[i]? = some y := ⟨_, Array.getElem?_eq_getElem (by omega)⟩
    refine wpAny_bind (pyNextZ (A := A.in1) b1 b2 st o1 o2 hx hy fun h' st' hT kp => ?_)
    dsimp only
    refine wpAny_bind (wpAny_holding (wpAny_bind (wpAny_tryCatch ?_)))
    have hTT : Shared.TypeIs { s with heap := h' } (.ref s.heap.objs.size) "tuple" := ⟨_, hT, rfl⟩
    unfold Builtin.Dict.pairItems
    refine wpAny_bind (wpAny_typeOf hTT ?_)
    rw [if_pos (by decide)]
    refine wpAny_bind (wpAny_seqItems hT rfl (wpAny_pure ?_))
    show wpAny _ A.in1 (holding [x, y] (dictSet d x y)) _ _ _
    refine wpAny_holding (wpAny_dictSet_pairs (k := kf i) (hk i x hx) (hD.at fun o g => kp d o nfd g) (fun h2 hD2 sb => ?_) ?_)
    · refine wpAny_pure ⟨plainId_quiet plain_dict_loop _, ?_⟩
      have hD3 : h2.DictOf (mixKind P w) d (accZ kf ys (i + 1)) := by
        unfold accZ
        rw [hy]
        exact hD2
      have up : ∀ b ob, b ≠ d → h'.get? b = some ob → h2.get? b = some ob := fun b ob hb g => (sb.2 b hb).trans g
      have := ih (i + 1) { s with heap := h2, toks := s.toks + 1 } (by omega) (st'.at fun b ob g => ?_) (o1.at fun o g => up _ o (by omega) (kp _ o (nfp _ b1) g)) (o2.at fun o g => up _ o (by omega) (kp _ o (nfp _ b2) g)) hD3 fun h3 tk hD4 kp3 => k h3 tk hD4 fun b ob hb g => kp3 b ob hb (up b ob (by omega) (kp b ob (nfp b hb) g))
      · rw [show ((i + 1 : Nat) : Int) = (i : Int) + 1 from rfl] at this
        exact this
      · by_cases hb : b = d
        · subst hb
          obtain ⟨o, _, _, go, _⟩ := hD3
          exact ⟨o, go, fun z => absurd z (Nat.not_le.mpr hd)⟩
        · exact ⟨ob, up b ob hb g, fun _ => rfl⟩
    · have := accZ_len kf ys i
      omega
end
end L2
set_option Elab.async false
set_option linter.all false
set_option maxRecDepth 100000
namespace L2
open PySem PySem.Spec PyProof.Rows
theorem boot_dictT : bootBuiltins "dict" = some (.type "dict") := by decide +kernel
section
variable {P : Program} {w : World} {A : Around} {E : Value → Shared → Prop} {s : Shared}
theorem call_dictZ {n l1 l2 m : Nat} {xs ys : Array Value} {kf : Nat → Key} {t1 t2 : Bool} {Q : Value → Shared → Prop} (hh : A.handled = none) (b1 : l1 < n) (b2 : l2 < n) (hm : m = min xs.size ys.size) (hz : m ≤ sizeLine) (hk : ∀ i x, xs[i]? = some x → (mixKind P w).is (kf i) x = true)
    (st : ZSt s.heap n t1 t2 l1 l2 0) (o1 : SOf s.heap t1 l1 xs) (o2 : SOf s.heap t2 l2 ys)
    (k : ∀ h' tk, h'.DictOf (mixKind P w) s.heap.objs.size (accZ kf ys m) → (∀ b ob, b < n → s.heap.get? b = some ob → h'.get? b = some ob) → Q (.ref s.heap.objs.size) { s with heap := h', toks := tk }) :
    wpAny (model P w) A (call (.type "dict") [.ref (n + 4)]) Q E s := by
  refine callType_codes F.kt_called_dict (F.kt_typeCall_dict_1 _) F.entry_dict_init (kt_code_dict_new (.ref (n + 4)) (Q₁ := fun obj s1 => obj = .ref s.heap.objs.size ∧ s1 = { s with heap := s.heap.push { cls := .type "dict", data := .dict #[] } }) ⟨rfl, rfl⟩) ?_
  rintro obj s1 ⟨rfl, rfl⟩
  have lt : n + 4 < s.heap.objs.size := st.s2.lt
  have g0 : (s.heap.push { cls := .type "dict", data := .dict #[] }).get? s.heap.objs.size = some { cls := .type "dict", data := .dict #[] } := Heap.get?_push_size _ rfl
  have up : ∀ b ob, s.heap.get? b = some ob → (s.heap.push { cls := .type "dict", data := .dict #[] }).get? b = some ob := fun b ob g => Heap.get?_push_of_some _ g
  have hD0 : (s.heap.push { cls := .type "dict", data := .dict #[] }).DictOf (mixKind P w) s.heap.objs.size [] := Heap.DictOf.new _
  revert g0 up hD0
  generalize s.heap.push { cls := .type "dict", data := .dict #[] } = h1
  intro g0 up hD0
  have hTd : Shared.TypeIs { s with heap := h1 } (.ref s.heap.objs.size) "dict" := ⟨_, g0, rfl⟩
  refine ⟨hTd, F.args_dict_init_2 _ _, ?_⟩
  have st1 : ZSt h1 n t1 t2 l1 l2 0 := by
    obtain ⟨a, b, gz, gi, go, q1, q2⟩ := st
    exact ⟨a, b, up _ _ gz, up _ _ gi, up _ _ go, q1.at fun o g => up _ o g, q2.at fun o g => up _ o g⟩
  obtain ⟨a0, b0, gz, _⟩ := id st1
  have hTz : Shared.TypeIs { s with heap := h1 } (.ref (n + 4)) "zip" := ⟨_, gz, rfl⟩
  unfold Builtin.«dict.__init__» Builtin.Dict.selfAndRest
  refine wpAny_bind (wpAny_bind ?_)
  unfold Builtin.Dict.notOrdered
  rw [if_pos (by decide +kernel)]
  refine wpAny_bind (wpAny_typeOf hTd ?_)
  rw [if_neg (by decide)]
  refine wpAny_pure ?_
  refine wpAny_bind (m := Builtin.Dict.addrOf _) (wpAny_of_eq (a := s.heap.objs.size) (by rfl) (wpAny_pure ?_))
  show wpAny _ _ (Builtin.Dict.updateFrom _ _ _ _ _) _ _ _
  unfold Builtin.Dict.updateFrom
  refine wpAny_bind (wpAny_typeOf hTz ?_)
  rw [if_pos (by decide)]
  refine wpAny_bind (zipKeys (A := A.in1.in1) gz hh fun h2 tk2 kp2 => ?_)
  rw [if_pos (show (none : Option Value).isNone = true from rfl)]
  refine wpAny_bind (wpAny_rule ?_)
  have st2 : ZSt h2 n t1 t2 l1 l2 0 := by
    obtain ⟨a, b, gz, gi, go, q1, q2⟩ := st1
    exact ⟨a, b, kp2 _ _ gz, kp2 _ _ gi, kp2 _ _ go, q1.at fun o g => kp2 _ o g, q2.at fun o g => kp2 _ o g⟩
  refine wpAny_bind (wpAny_pyIter_zip (kp2 _ _ gz) ?_)
  refine wpAny_pure ⟨plainId_quiet plain_dict_loop _, ?_⟩
  refine dictLoop (A := A.in1) hh b1 b2 hm hz hk lt m 0 _ (by omega) st2.s2 (o1.at fun o g => kp2 _ o (up _ o g)) (o2.at fun o g => kp2 _ o (up _ o g)) (hD0.at fun o g => kp2 _ o g) fun h3 tk3 hD3 kp3 => ?_
  exact ⟨rfl, k h3 tk3 hD3 fun b ob hb g => kp3 b ob hb (kp2 b ob (up b ob g))⟩
end
/-- the dict of two lists, pair by pair -/
def dzip (ks : List Key) (ys : List V) : Nat → List (Key × V)
  | 0 => []
  | i + 1 => putK (dzip ks ys i) (ks[i]?.getD (.inl 0)) (ys[i]?.getD .non)
theorem dzip_len (ks : List Key) (ys : List V) : ∀ i, (dzip ks ys i).length ≤ i
  | 0 => Nat.le_refl _
  | i + 1 => by
    have := dzip_len ks ys i
    have h2 := length_putK (dzip ks ys i) (ks[i]?.getD (.inl 0)) (ys[i]?.getD .non)
    unfold dzip
    omega
theorem dzip_val {ks : List Key} {ys : List V} (nd : ks.Nodup) : ∀ i, i ≤ ks.length → i ≤ ys.length → ∀ j k v, j < i → ks[j]? = some k → ys[j]? = some v → valV (dzip ks ys i) k = some v
  | 0, _, _, j, k, v, h, _, _ => absurd h (Nat.not_lt_zero _)
  | i + 1, h1, h2, j, k, v, h, hk, hv => by
    unfold dzip
    rw [valV_put]
    by_cases e : j = i
    · subst e
      rw [hk, hv]
      simp
    · have hi : ks[i]? = some ks[i] := List.getElem?_eq_getElem (by omega)
      rw [hi]
      have hj : ks[j]? = some ks[j] := List.getElem?_eq_getElem (by omega)
      rw [hj] at hk
      cases hk
      rw [if_neg (fun z => List.pairwise_iff_getElem.mp nd j i (by omega) (by omega) (by omega) (by simpa using z))]
      exact dzip_val nd i (by omega) (by omega) j _ v (by omega) hj hv
theorem dzip_kv {ks : List Key} {ys : List V} {us : List Value} (r : Vals ys us) : ∀ i, i ≤ ys.length → KV (dzip ks ys i) (accZ (fun j => ks[j]?.getD (.inl 0)) us.toArray i)
  | 0, _ => .nil
  | i + 1, h => by
    unfold dzip accZ
    obtain ⟨u, hu, ru⟩ := r.get (List.getElem?_eq_getElem (l := ys) (i := i) (by omega))
    refine KV.put (dzip_kv r i (by omega)) _ ?_
    rw [List.getElem?_eq_getElem (l := ys) (i := i) (by omega), List.getElem?_toArray, hu]
    exact ru
/-- dict(zip(a, b)) -/
def rDZ (K : PySem.W.Frag) : List V → Hp → VK → Prop := fun vs H Q => ∃ t1 t2 l1 l2 ks ys, vs = [.ref l1, .ref l2] ∧ Sq K t1 H l1 (ks.map kV) ∧ Sq K t2 H l2 ys ∧ ys.length ≤ sizeLine ∧ ∀ p, H p = none → Q (.ref p) (upd H p (.dK (dzip ks ys (min ks.length ys.length))))
def tDZ (K : PySem.W.Frag) (ta : TA) : TE := fun σ H Q => ta σ H fun vs H1 => rDZ K vs H1 Q
section
variable {X : Cx}
theorem pe_dictZip {a b : Expr} {ta : TA} {p pos p2 pos2 : Pos} (hc : X.calm = true) (hd : Gl X "dict") (hdm : X.mg "dict" = none) (hg : Gl X "zip") (hm : X.mg "zip" = none) (ha : PA X [a, b] ta) (hs : starEach [a, b] X.env = (false, eval a X.env) :: starEach [b] X.env := by rfl) (hp : (backTo pos2 (starEach [b] X.env)).any (·.1) = false := by rfl)
    (hs2 : starEach [Expr.Call (.Name "zip" p2) [a, b] [] pos2] X.env = (false, eval (.Call (.Name "zip" p2) [a, b] [] pos2) X.env) :: starEach [] X.env := by rfl) (hp2 : (backTo pos (starEach [] X.env)).any (·.1) = false := by rfl) :
    PE X (.Call (.Name "dict" p) [.Call (.Name "zip" p2) [a, b] [] pos2] [] pos) (tDZ X.K ta) := by
  intro pins s σ H Q I h
  refine wpAny_Call_Name_kw (ld_blt I hd hdm boot_dictT ?_)
  refine PyProof.Rows.callWith_type1 ?_ hs2 hp2
  rw [hs2]
  show wpAny _ _ (spliced ((false, eval _ X.env) :: backTo pos (starEach [] X.env))) _ _ s
  refine Calls.spliced_cons ?_
  refine wpAny_Call_Name_kw (ld_blt I hg hm boot_zipT (PyProof.Rows.callWith_type1 (thn (ha pos2 pins s σ H _ I h) fun us s1 ⟨vs, H1, I1, r1, q1⟩ => ?_) hs hp))
  obtain ⟨t1, t2, l1, l2, ks, ys, e, hq1, hq2, hz, q⟩ := q1
  subst e
  cases r1 with
  | cons r rr =>
    cases rr with
    | cons r2 rr =>
      cases rr
      cases r
      cases r2
      obtain ⟨its1, rv1, so1, b1⟩ := I1.sq hq1
      obtain ⟨its2, rv2, so2, b2⟩ := I1.sq hq2
      refine call_zipS so1 so2 fun h' st kp => ?_
      refine Calls.spliced_nil ?_
      have l1' := rv1.length
      have l2' := rv2.length
      rw [List.length_map] at l1'
      refine call_dictZ (s := { s1 with heap := h' }) (m := min ks.length ys.length) (kf := fun j => ks[j]?.getD (.inl 0)) (I.ok.hd hc) b1 b2 (by simp [l1', l2']) (by omega) (fun i x hx => ?_) st (so1.at fun o g => kp _ o g) (so2.at fun o g => kp _ o g) fun h3 tk3 hD3 kp3 => ?_
      · have hx' : its1[i]? = some x := by simpa using hx
        have hi : i < ks.length := by
          have := (List.getElem?_eq_some_iff.mp hx').1
          omega
        obtain ⟨u, hu, ru⟩ := rv1.get (x := kV ks[i]) (by rw [List.getElem?_map, List.getElem?_eq_getElem hi]; rfl)
        rw [hx'] at hu
        cases hu
        show (mixKind X.prog X.w).is (ks[i]?.getD (.inl 0)) x = true
        rw [List.getElem?_eq_getElem hi]
        exact kV_is ru
      · have up : ∀ b ob, s1.heap.get? b = some ob → h3.get? b = some ob := fun b ob g => kp3 b ob (Heap.lt_size g) (kp b ob g)
        have lt : s1.heap.objs.size ≤ h'.objs.size := by
          have := st.s2.lt
          omega
        have fr : H1 h'.objs.size = none := I1.hok.fresh lt
        have big := I1.big
        refine ⟨.ref h'.objs.size, upd H1 h'.objs.size (.dK (dzip ks ys (min ks.length ys.length))), I1.laid (a := h'.objs.size) (o := .dK _) (t' := tk3) up lt ⟨?_, ?_, _, dzip_kv rv2 _ (by omega), hD3⟩, rfl, q _ fr⟩
        · have := dzip_len ks ys (min ks.length ys.length)
          omega
        · exact beq_eq_false_iff_ne.mpr (Nat.ne_of_gt (Nat.lt_of_lt_of_le big lt))
end
end L2
set_option Elab.async false
set_option linter.all false
set_option maxRecDepth 100000
namespace L2
open PySem PySem.Spec PyProof.Rows
def isI (b : Int) : Value → Bool
  | .int c _ => c == b
  | _ => false
theorem isI_at {A : Around} {s : Shared} {b : Int} {t : Tok} {ns : List Int} {us : List Value} (h : IntsAre us ns) : ∀ y, y ∈ us.toArray → SeqAt.EqAt A s y (.int b t) (isI b y) := by
  intro y hy
  have hy' : y ∈ us := by simpa using hy
  clear hy
  induction h with
  | nil => cases hy'
  | cons c u _ ih =>
    rcases List.mem_cons.mp hy' with rfl | hy'
    · exact SeqAt.EqAt.int_int c u b t
    · exact ih hy'
theorem ints_get {us : List Value} {ns : List Int} (h : IntsAre us ns) : ∀ {i : Nat} (hi : i < us.length) (hn : i < ns.length), ∃ t, us[i] = .int ns[i] t := by
  induction h with
  | nil => intro i hi; exact absurd hi (Nat.not_lt_zero _)
  | cons c u _ ih =>
    intro i hi hn
    cases i with
    | zero => exact ⟨u, rfl⟩
    | succ i => exact ih (i := i) (by simpa using hi) (by simpa using hn)
section
variable {X : Cx}
def rIndexI : V → List V → Hp → VK → Prop := fun x vs H Q => ∃ (l : Addr) (ns : List Int) (b : Int) (j : Nat), x = .ref l ∧ vs = [.int b] ∧ H l = some (.lst (ns.map V.int)) ∧ ns[j]? = some b ∧ (∀ m, m < j → ns[m]? ≠ some b) ∧ Q (.int (j : Nat)) H
theorem mt_indexI : MtM X "list.index" rIndexI := by
  intro pins s σ H x vs v us Q I rx rv h
  obtain ⟨l, ns, b, j, rfl, rfl, hH, hj, hno, q⟩ := h
  cases rx
  obtain ⟨u, rfl, ru⟩ := rv.one
  obtain ⟨t, rfl⟩ := ru
  obtain ⟨z, its, n, r, hl, e⟩ := I.lstM hH
  have hi := intsAre_of r
  have hil : its.length = ns.length := by rw [← hl, List.length_map]
  obtain ⟨hjl, hjb⟩ := List.getElem?_eq_some_iff.mp hj
  rw [List.length_map] at z
  have hz : (sizeLine : Nat) < 2 ^ 63 - 1 := by decide
  refine call_meets F.slot_list_index ⟨_, e, rfl⟩ F.entry_list_index (F.args_list_index_2 _ _)
    (SeqAt.list_indexAt l _ n _ _ (.int b t) (isI b) j (by rw [List.size_toArray]; omega) (by omega) ?_ fun m hm hlt => ?_) ⟨e, isI_at hi, ⟨.int (j : Nat), _, I.tok _, ⟨_, rfl⟩, q⟩⟩
  · rw [List.getElem_toArray]
    obtain ⟨t', e'⟩ := ints_get hi (i := j) (by omega) hjl
    rw [e', hjb]
    exact beq_self_eq_true b
  · rw [List.getElem_toArray]
    obtain ⟨t', e'⟩ := ints_get hi (i := m) (by omega) (by omega)
    rw [e']
    exact beq_eq_false_iff_ne.mpr fun q => hno m hlt (by rw [List.getElem?_eq_getElem (by omega), q])
end
theorem rising_eq {a b : List Int} (p : a.Perm b) (ha : a.Pairwise (· ≤ ·)) (hb : b.Pairwise (· ≤ ·)) : a = b := p.eq_of_pairwise (fun x y _ _ h1 h2 => Int.le_antisymm h1 h2) ha hb
end L2
set_option Elab.async false
set_option linter.all false
set_option maxRecDepth 100000
set_option maxHeartbeats 4000000
namespace Mh
open PySem L2 PyProof.Rows Mx
/-- the same harm, its cells called otherwise -/
def rnH (f : Int → Int) (h : Hm) : Hm := { h with c := h.c.map f }
def Nms (kvs : List (Key × V)) (f : Int → Int) (c : Int) : Prop := valV kvs (.inl c) = some (.int (f c))
section
variable {P : Program} {w : World} {K : PySem.W.Frag} {mg : Str → Option Value} {base : Heap}
def sp_renamed : Sp := fun vs H Q _ => ∃ v h ns d kvs f, vs = [v, .ref d] ∧ HAt H v h ∧ okH h ns ∧ H d = some (.dK kvs) ∧ (∀ c ∈ h.c, Nms kvs f c) ∧ ∀ a H', Same H H' → H a = none → H' a = some (.tup (hV (rnH f h))) → Q (.ref a) H'
abbrev s_renamed : Stmt := top 21
theorem sc_renamed : FnScope ["harm", "names", "parts", "name", "part"] ["harm", "names"] (defScope s_renamed) := ⟨rfl, rfl, rfl, by decide +kernel, rfl, by decide +kernel, by decide +kernel⟩
/- slots: 0 harm, 1 names, 2 parts, 3 name, 4 part -/
theorem ok_renamed (B : Bl mg) (z_zip : mg "zip" = none) {aP : Addr} (gP : mg "PARTS" = some (.ref aP)) (TP : TabK K aP tabP) (F : FnAt K mg "renamed" s_renamed ["harm", "names"]) : Has P w K mg base 1 "renamed" ["harm", "names"] sp_renamed := by
  refine Has.of F sc_renamed (fun vs H Q E h => ?_) (fun f cdv A outer s H vs Q E hr h => ?_)
  · obtain ⟨v, h, ns, d, kvs, f, rfl, _⟩ := h
    rfl
  · obtain ⟨v, h, ns, d, kvs, f, rfl, ⟨a, rfl, ha⟩, ok, hd, hn, k⟩ := h
    have sc := sc_renamed
    refine ⟨_, (pss_cons (ps_set (i := 2) sc.nd rfl (Or.inl rfl) (pe_lst (pa_cons (pe_ix ix_tup (pv 0) pe_int (fun _ _ => rfl)) pa_nil)))
      (pss_cons (ps_for PassesOwn.never rfl (pi_zip rfl z_zip (pa_cons (pe_ix (ix_tab (D := tabP)) (pe_glob (v := .ref aP) rfl gP rfl) (pe_ix ix_tup (pv 0) pe_int (fun _ _ => rfl)) (fun _ _ => rfl)) (pa_cons (pe_slice sl_tup (pv 0) (po_some pe_int) po_none) pa_nil))) (pg_tup rfl (pgs_cons (pg_name (i := 3) sc.nd rfl (Or.inl rfl)) (pgs_cons (pg_name (i := 4) sc.nd rfl (Or.inl rfl)) pgs_nil)))
        (pss_one (ps_expr (pe_bm PySem.F.plainAttrs_list PySem.F.slot_list_append PySem.F.type_list_append mt_append (pv 2) (pa_cons (pe_ifExp (pt_cmpR op_eq (pv 3) pe_str (nomark _)) (pe_dget (hu_of hr) (pv 1) (pv 4) (fun _ _ => rfl)) (pv 4)) pa_nil)))))
      (pss_one (ps_ret (pe_callTy call_tuple_of rfl (B.of rfl) boot_tuple (pa_cons (pv 2) pa_nil)))))), ?_⟩
    have z1 : 1 ≤ sizeLine := by decide
    refine ⟨_, rfl, a, _, _, _, rfl, rfl, SqT.of ha, atI_lit 0 rfl, z1, fun p hp => ?_⟩
    generalize hG1 : upd H p _ = H1
    have s1 : Same H H1 := by rw [← hG1]; exact (Same.refl H).upd hp
    have f1 : H1 p = some (.lst [.str h.w]) := by rw [← hG1]; exact upd_same
    refine ⟨_, rfl, a, _, _, _, rfl, rfl, SqT.of (s1 _ _ ha), atI_lit 0 rfl, aP, h.w, _, rfl, rfl, TP, ok.tab, fun pn hpn => ?_⟩
    refine ⟨_, rfl, _, rfl, a, _, rfl, SqT.of (s1 _ _ ha), tail_ne h, fun q hq => ?_⟩
    rw [tail_cut]
    generalize hG2 : upd H1 q _ = H2
    have s2 : Same H1 H2 := by rw [← hG2]; exact (Same.refl H1).upd hq
    have f2 : H2 q = some (.tup (h.c.map V.int ++ h.r)) := by rw [← hG2]; exact upd_same
    have npq : q ≠ p := fun z => by subst z; rw [f1] at hq; cases hq
    refine ⟨true, true, pn, q, _, _, rfl, hpn _, SqT.of f2, ?_⟩
    have hlen : ((h.c.map f).map V.int ++ h.r).length = (namesOf h.c.length ns).length := by
      have := ok.len
      simp only [List.length_append, List.length_map] at this ⊢
      exact this
    refine for_zip (K := K) (ok.len.symm) (fun i σ H' => ∃ q3 q4 : Option V, σ = [some (.ref a), some (.ref d), some (.ref p), q3, q4] ∧ Same H H' ∧ H' q = some (.tup (h.c.map V.int ++ h.r)) ∧ H' p = some (.lst (.str h.w :: ((h.c.map f).map V.int ++ h.r).take i))) ⟨_, _, rfl, s1.trans s2, f2, s2 _ _ f1⟩ (fun i σ H' _ ⟨_, _, _, _, e, _⟩ => ⟨hpn _, SqT.of e⟩) ?_ ?_
    · rintro i x y pp σ H3 hx hy ⟨q3, q4, rfl, s3, e3, e4⟩ hpp
      refine ⟨pp, _, rfl, SqT.of upd_same, rfl, ?_⟩
      have s4 : Same H3 (upd H3 pp (.tup [x, y])) := (Same.refl H3).upd hpp
      revert s4
      generalize upd H3 pp (.tup [x, y]) = H4
      intro s4
      refine ⟨_, _, rfl, _, _, rfl, rfl, ?_⟩
      have hil : i < (namesOf h.c.length ns).length := (List.getElem?_eq_some_iff.mp hx).1
      have hsz : (V.str h.w :: ((h.c.map f).map V.int ++ h.r).take i).length < 64 := by
        have := ok.cl
        have := ok.rl
        have := ok.rest.len
        simp
        omega
      have fin : ∀ v, ((h.c.map f).map V.int ++ h.r)[i]? = some v → ∃ q3 q4 : Option V, [some (V.ref a), some (V.ref d), some (V.ref p), some x, some y] = [some (.ref a), some (.ref d), some (.ref p), q3, q4] ∧ Same H (upd H4 p (.lst ((V.str h.w :: ((h.c.map f).map V.int ++ h.r).take i) ++ [v]))) ∧ (upd H4 p (.lst ((V.str h.w :: ((h.c.map f).map V.int ++ h.r).take i) ++ [v]))) q = some (.tup (h.c.map V.int ++ h.r)) ∧ (upd H4 p (.lst ((V.str h.w :: ((h.c.map f).map V.int ++ h.r).take i) ++ [v]))) p = some (.lst (.str h.w :: ((h.c.map f).map V.int ++ h.r).take (i + 1))) := fun v hv =>
        ⟨_, _, rfl, (s3.trans s4).at hp, by rw [upd_ne npq]; exact s4 _ _ e3, by rw [upd_same, List.take_add_one, hv]; rfl⟩
      refine ⟨_, rfl, .inl ⟨rfl, _, SqL.of (s4 _ _ e4)⟩, ?_⟩
      rcases ok.cellAt hx hy with ⟨rfl, c, hc, rfl⟩ | ⟨hge, hh⟩
      · refine ⟨_, rfl, rfl, _, rfl, iteB (by decide +kernel) ?_⟩
        have hcl : i < h.c.length := (List.getElem?_eq_some_iff.mp hc).1
        refine ⟨_, rfl, _, rfl, d, .int (f c), rfl, ?_, p, _, _, rfl, rfl, s4 _ _ e4, sl_lt (by omega), fin (.int (f c)) ?_⟩
        · have := hn c (List.mem_of_getElem? hc)
          unfold Nms at this
          rw [← this]
          exact DGet.k (k := .inl c) ((s3.trans s4) _ _ hd)
        · rw [List.getElem?_append_left (by simpa using hcl), List.getElem?_map, List.getElem?_map, hc]; rfl
      · have hxn : ∃ nm, x = .str nm ∧ nm ≠ "cell" := by
          rcases hh with ⟨rfl, _⟩ | ⟨rfl, _⟩
          · exact ⟨_, rfl, by decide +kernel⟩
          · exact ⟨_, rfl, by decide +kernel⟩
        obtain ⟨nm, rfl, hnm⟩ := hxn
        refine ⟨_, rfl, rfl, _, rfl, iteN (by simpa using hnm) ?_⟩
        refine ⟨_, rfl, p, _, _, rfl, rfl, s4 _ _ e4, sl_lt (by omega), fin y ?_⟩
        rw [List.getElem?_append_right (by simpa using hge)] at hy ⊢
        simpa using hy
    · rintro σ H3 ⟨q3, q4, rfl, s3, e3, e4⟩
      rw [← hlen, List.take_length] at e4
      exact ⟨_, rfl, p, _, rfl, .inl ⟨SqL.of e4, fun l hl => k l _ (s3.upd hl) (s3.free hl) upd_same⟩⟩
end
end Mh
set_option Elab.async false
set_option linter.all false
set_option maxRecDepth 100000
set_option maxHeartbeats 4000000
namespace Mh
open PySem L2 PyProof.Rows Mx
/-- the harms' cells, rising, each once -/
def ownC (hs : List Hm) : List Int := (uniq (allC hs)).mergeSort (fun a b => decide (a ≤ b))
theorem own_perm (hs : List Hm) : (ownC hs).Perm (uniq (allC hs)) := List.mergeSort_perm _ _
theorem own_rise (hs : List Hm) : (ownC hs).Pairwise (· ≤ ·) := by
  have := List.pairwise_mergeSort (le := fun (a b : Int) => decide (a ≤ b)) (fun a b c h1 h2 => by simp at h1 h2 ⊢; omega) (fun a b => by simp; omega) (uniq (allC hs))
  exact this.imp fun h => by simpa using h
theorem own_eq {hs : List Hm} {ns : List Int} (h1 : ns.Perm (uniq (allC hs))) (h2 : ns.Pairwise (· ≤ ·)) : ns = ownC hs := rising_eq (h1.trans (own_perm hs).symm) h2 (own_rise hs)
theorem own_nd (hs : List Hm) : (ownC hs).Nodup := (own_perm hs).nodup_iff.mpr (uniq_nodup _)
theorem own_mem {hs : List Hm} {h : Hm} {c : Int} (hh : h ∈ hs) (hc : c ∈ h.c) : c ∈ ownC hs := (own_perm hs).mem_iff.mpr ((uniq_mem _ c).mpr (List.mem_flatMap.mpr ⟨h, hh, hc⟩))
theorem own_few {hs : List Hm} {S : List Int} (ok : okHs hs S) : (ownC hs).length ≤ 3 := by
  rw [(own_perm hs).length_eq]
  exact ok.few (l := hs) (fun h hh => hh)
/-- the cell that stands in the place of this one -/
def plF (own cl : List Int) (c : Int) : Int := cl.getD (own.idxOf c) 0
theorem HsV.upL {H : Hp} {us : List V} {hs : List Hm} {D : Addr} {xs : List V} {o : HO} (x : HsV H us hs) (hD : H D = some (.lst xs)) : HsV (L2.upd H D o) us hs := ⟨x.len, fun i v h a b => by
  obtain ⟨z, e, hz⟩ := x.at_ i v h a b
  exact ⟨z, e, by rw [upd_ne (fun q => by subst q; rw [hD] at hz; cases hz)]; exact hz⟩⟩
section
variable {P : Program} {w : World} {K : PySem.W.Frag} {mg : Str → Option Value} {base : Heap}
def sp_placed : Sp := fun vs H Q _ => ∃ L us hs S Cl cl, vs = [.ref L, .ref Cl] ∧ H L = some (.lst us) ∧ HsV H us hs ∧ okHs hs S ∧ H Cl = some (.lst ((cl : List Int).map V.int)) ∧ (ownC hs).length ≤ cl.length ∧ cl.length ≤ 64 ∧
  ∀ (D : Addr) (us' : List V) (H' : Hp), Same H H' → H D = none → H' D = some (.lst us') → HsV H' us' (hs.map (rnH (plF (ownC hs) cl))) → Q (.ref D) H'
abbrev s_placed : Stmt := top 22
theorem sc_placed : FnScope ["harms", "cells", "names"] ["harms", "cells"] (defScope s_placed) := ⟨rfl, rfl, rfl, by decide +kernel, rfl, by decide +kernel, by decide +kernel⟩
/- slots: 0 harms, 1 cells, 2 names; cells: names -/
theorem ok_placed (B : Bl mg) (z_zip : mg "zip" = none) (h_cells_of : Has P w K mg base 7 "cells_of" ["harms"] sp_cells_of) (h_renamed : Has P w K mg base 1 "renamed" ["harm", "names"] sp_renamed) (F : FnAt K mg "placed" s_placed ["harms", "cells"]) : Has P w K mg base 8 "placed" ["harms", "cells"] sp_placed := by
  refine Has.ofQ F sc_placed (fun vs H Q E h => ?_) (fun f cdv A outer s H vs Q E hr h => ?_)
  · obtain ⟨L, us, hs, S, Cl, cl, rfl, _⟩ := h
    rfl
  · obtain ⟨L, us, hs, S, Cl, cl, rfl, hL, hv, ok, hCl, hlen, hc64, k⟩ := h
    have sc := sc_placed
    refine ⟨_, (qss_litQ rfl (qss_cons (qs_setE (i := 2) sc.nd rfl (Or.inr rfl) (qe_of (pe_dictZip rfl rfl (B.of rfl) rfl z_zip (pa_cons (pe_callH h_cells_of hr (pa_cons (pv 0) pa_nil)) (pa_cons (pv 1) pa_nil)))))
      (qss_one (qs_retE (qe_of (pe_comp rfl (compOk_of rfl) (M := ["harm", "names"]) (ix := [none, some 2]) (pi_list (pv 0)) (fun _ _ _ _ => (pg_name (i := 0) (show List.Nodup (["harm", "names"] : List Str) by decide +kernel) rfl (Or.inl rfl))) (fun _ _ _ _ => pts_nil) (fun _ _ _ _ => (pe_callH h_renamed hr (pa_cons (pv 0) (pa_cons (pv 1) pa_nil)))))))))), ?_⟩
    have o3 := own_few ok
    have hcz : cl.length ≤ sizeLine := Nat.le_of_lt (sl_lt (by omega))
    refine ⟨_, rfl, L, us, hs, S, rfl, hL, hv, ok, fun D0 ns H1 s1 nD0 eD0 hp1 hp2 => ?_⟩
    have := own_eq hp1 hp2
    subst this
    refine ⟨_, rfl, false, false, D0, Cl, (ownC hs).map Sum.inl, cl.map V.int, rfl, ?_, SqL.of (s1 _ _ hCl), by rw [List.length_map]; exact hcz, fun d hd => ?_⟩
    · rw [List.map_map]
      exact SqL.of eD0
    generalize hG2 : upd H1 d _ = H2
    have s2 : Same H1 H2 := by rw [← hG2]; exact (Same.refl H1).upd hd
    have f2 : H2 d = some (.dK (dzip ((ownC hs).map Sum.inl) (cl.map V.int) (min ((ownC hs).map (Sum.inl : Int → Key)).length (cl.map V.int).length))) := by rw [← hG2]; exact upd_same
    have s12 := s1.trans s2
    have hL2 := s12 _ _ hL
    have hv2 := hv.same s12
    have ndk : ((ownC hs).map (Sum.inl : Int → Key)).Nodup := List.Pairwise.map Sum.inl (fun a b h z => h (Sum.inl.inj z)) (own_nd hs)
    have hNms : ∀ h ∈ hs, ∀ c ∈ h.c, Nms (dzip ((ownC hs).map Sum.inl) (cl.map V.int) (min ((ownC hs).map (Sum.inl : Int → Key)).length (cl.map V.int).length)) (plF (ownC hs) cl) c := fun h hh c hc => by
      have hm := own_mem hh hc
      have hi : (ownC hs).idxOf c < (ownC hs).length := List.idxOf_lt_length_iff.mpr hm
      have hg : (ownC hs)[(ownC hs).idxOf c]? = some c := by rw [List.getElem?_eq_getElem hi, List.getElem_idxOf]
      refine dzip_val ndk _ (by simp; omega) (by simp; omega) ((ownC hs).idxOf c) _ _ (by simp; omega) (by rw [List.getElem?_map, hg]; rfl) ?_
      rw [List.getElem?_map, List.getElem?_eq_getElem (by omega)]
      unfold plF
      rw [List.getD_eq_getElem?_getD, List.getElem?_eq_getElem (by omega)]
      rfl
    refine ⟨_, rfl, L, rfl, ⟨_, SqL.of hL2⟩, fun D hD => comp_by (n := us.length) (fun i H' => Same H2 H' ∧ ∃ us', H' D = some (.lst us') ∧ HsV H' us' ((hs.take i).map (rnH (plF (ownC hs) cl)))) ⟨(Same.refl H2).upd hD, [], upd_same, ⟨rfl, fun i v h a b => by simp at a⟩⟩ ?_ ?_⟩
    · rintro H3 ⟨s3, us', e3, hv3⟩
      refine ⟨⟨_, SqL.of (s3 _ _ hL2), Nat.le_refl _⟩, ?_⟩
      rw [hv.len, List.take_length] at hv3
      exact k D us' H3 (s12.trans s3) (s12.free hD) e3 hv3
    · rintro i H3 hi ⟨s3, us', e3, hv3⟩
      refine ⟨⟨_, _, SqL.of (s3 _ _ hL2), List.getElem?_eq_getElem hi⟩, ?_⟩
      rintro x H4 ⟨rfl, hx⟩
      have hx' := hx _ (SqL.of (s3 _ _ hL2))
      obtain ⟨g, hg, hat⟩ := hv2.get hx'
      have hgm := List.mem_of_getElem? hg
      obtain ⟨nn, og⟩ := ok.ok g hgm
      refine ⟨KeepS.set (KeepS.refl _) rfl, yes ?_⟩
      refine ⟨_, rfl, _, rfl, x, g, nn, d, _, plF (ownC hs) cl, rfl, HAt.same s3 hat, og, s3 _ _ f2, hNms g hgm, fun a5 H5 s5 n5 e5 => ?_⟩
      have hul := hv3.len
      rw [List.length_map, List.length_take] at hul
      refine ⟨us', s5 _ _ e3, sl_lt (by have := ok.len; omega), (s3.trans s5).at hD, us' ++ [.ref a5], upd_same, ?_⟩
      rw [List.take_add_one, hg, List.map_append]
      exact ((hv3.same s5).snoc ⟨a5, rfl, e5⟩).upL (s5 _ _ e3)
end
end Mh
set_option Elab.async false
set_option linter.all false
set_option maxRecDepth 100000
set_option maxHeartbeats 4000000
namespace Mh
open PySem L2 PyProof.Rows Mx
theorem rn_congr {f g : Int → Int} {h : Hm} (e : ∀ c ∈ h.c, f c = g c) : rnH f h = rnH g h := by
  unfold rnH
  rw [List.map_congr_left e]
theorem rns_congr {f g : Int → Int} {hs : List Hm} (e : ∀ h ∈ hs, ∀ c ∈ h.c, f c = g c) : hs.map (rnH f) = hs.map (rnH g) := List.map_congr_left fun h hh => rn_congr (e h hh)
def ixF (own : List Int) (c : Int) : Int := (own.idxOf c : Nat)
section
variable {P : Program} {w : World} {K : PySem.W.Frag} {mg : Str → Option Value} {base : Heap}
def sp_little : Sp := fun vs H Q _ => ∃ L us hs S, vs = [.ref L] ∧ H L = some (.lst us) ∧ HsV H us hs ∧ okHs hs S ∧
  ∀ (D : Addr) (us' : List V) (H' : Hp), Same H H' → H D = none → H' D = some (.lst us') → HsV H' us' (hs.map (rnH (ixF (ownC hs)))) → Q (.ref D) H'
abbrev s_little : Stmt := top 23
theorem sc_little : FnScope ["harms"] ["harms"] (defScope s_little) := ⟨rfl, rfl, rfl, by decide +kernel, rfl, by decide +kernel, by decide +kernel⟩
/- slots: 0 harms -/
theorem ok_little (B : Bl mg) (h_cells_of : Has P w K mg base 7 "cells_of" ["harms"] sp_cells_of) (h_placed : Has P w K mg base 8 "placed" ["harms", "cells"] sp_placed) (F : FnAt K mg "little" s_little ["harms"]) : Has P w K mg base 9 "little" ["harms"] sp_little := by
  refine Has.ofQ F sc_little (fun vs H Q E h => ?_) (fun f cdv A outer s H vs Q E hr h => ?_)
  · obtain ⟨L, us, hs, S, rfl, _⟩ := h
    rfl
  · obtain ⟨L, us, hs, S, rfl, hL, hv, ok, k⟩ := h
    have sc := sc_little
    refine ⟨_, (qss_litQ rfl (qss_one (qs_retE (qe_callH h_placed hr (qa_nm (qe_of (pv 0)) (qa_cl (qe_of (pe_listRange hr.hd rfl (B.of rfl) rfl (B.of rfl) (pa_cons (pe_callB call_len_seq rfl (B.of rfl) boot_len (pa_cons (pe_callH h_cells_of hr (pa_cons (pv 0) pa_nil)) pa_nil)) pa_nil))) qa_nil)))))), ?_⟩
    have o3 := own_few ok
    refine ⟨_, rfl, _, rfl, L, us, hs, S, rfl, hL, hv, ok, fun D0 ns H1 s1 nD0 eD0 hp1 hp2 => ?_⟩
    have := own_eq hp1 hp2
    subst this
    refine ⟨D0, _, rfl, .inl (SqL.of eD0), (ownC hs).length, by rw [List.length_map], by omega, fun l hl => ?_⟩
    generalize hG2 : upd H1 l _ = H2
    have s2 : Same H1 H2 := by rw [← hG2]; exact (Same.refl H1).upd hl
    have f2 : H2 l = some (.lst (((List.range (ownC hs).length).map Int.ofNat).map V.int)) := by
      rw [← hG2]
      refine upd_same.trans ?_
      unfold natsV
      rw [List.map_map]
      rfl
    have s12 := s1.trans s2
    refine ⟨L, us, hs, S, l, _, rfl, s12 _ _ hL, hv.same s12, ok, f2, by simp, by simp; omega, fun D us' H3 s3 nD eD hv3 => ?_⟩
    refine k D us' H3 (s12.trans s3) (s12.free nD) eD ?_
    rw [← rns_congr (f := plF (ownC hs) ((List.range (ownC hs).length).map Int.ofNat)) (g := ixF (ownC hs)) fun h hh c hc => ?_]
    · exact hv3
    · have hi : (ownC hs).idxOf c < (ownC hs).length := List.idxOf_lt_length_iff.mpr (own_mem hh hc)
      unfold plF ixF
      rw [List.getD_eq_getElem?_getD, List.getElem?_map, List.getElem?_range hi]
      rfl
end
end Mh
set_option Elab.async false
set_option linter.all false
set_option maxRecDepth 100000
set_option maxHeartbeats 4000000
namespace Mh
open PySem L2 PyProof.Rows Mx
theorem ten_words {h : Hm} {ns : List Str} (o : okH h ns) : (h.w = "stuck" ∨ h.w = "slow" ∨ h.w = "forgets" ∨ h.w = "misreads" ∨ h.w = "nowhere") ∨ h.w = "turns" ∨ (h.w = "sets" ∨ h.w = "keeps") ∨ h.w = "other" ∨ h.w = "both" := by
  have hk : KTD.inKeys h.w tabP = true := by rw [← KTD.isSome_datumAt, o.tab]; rfl
  have : h.w = "stuck" ∨ h.w = "slow" ∨ h.w = "forgets" ∨ h.w = "misreads" ∨ h.w = "turns" ∨ h.w = "sets" ∨ h.w = "keeps" ∨ h.w = "nowhere" ∨ h.w = "other" ∨ h.w = "both" := by
    simpa [tabP, KTD.inKeys] using hk
  rcases this with e | e | e | e | e | e | e | e | e | e
  · exact .inl (.inl e)
  · exact .inl (.inr (.inl e))
  · exact .inl (.inr (.inr (.inl e)))
  · exact .inl (.inr (.inr (.inr (.inl e))))
  · exact .inr (.inl e)
  · exact .inr (.inr (.inl (.inl e)))
  · exact .inr (.inr (.inl (.inr e)))
  · exact .inl (.inr (.inr (.inr (.inr e))))
  · exact .inr (.inr (.inr (.inl e)))
  · exact .inr (.inr (.inr (.inr e)))
theorem two_is {h : Hm} {ns : List Str} (o : okH h ns) : inV (.str h.w) (([("turns" : Str), "sets", "keeps", "other", "both"] : List Str).map V.str) = decide (h.c.length = 2) := by
  rw [in5]
  rcases ten_words o with hw | hw | hw | hw | hw
  · obtain ⟨a, b, hc, _⟩ := o.s1 (tab_ones hw)
    rw [show h.c.length = 1 by rw [hc]; rfl]
    rcases hw with hw | hw | hw | hw | hw <;> rw [hw] <;> decide +kernel
  · obtain ⟨a, b, x, hc, _⟩ := o.sTurns (by rw [hw]; exact tab_turns)
    rw [show h.c.length = 2 by rw [hc]; rfl, hw]; decide +kernel
  · obtain ⟨a, b, x, y, hc, _⟩ := o.sSets (tab_sets hw)
    rw [show h.c.length = 2 by rw [hc]; rfl]
    rcases hw with hw | hw <;> rw [hw] <;> decide +kernel
  · obtain ⟨a, b, hc, _⟩ := o.sOther (by rw [hw]; exact tab_other)
    rw [show h.c.length = 2 by rw [hc]; rfl, hw]; decide +kernel
  · obtain ⟨a, b, v, hc, _⟩ := o.sBoth (by rw [hw]; exact tab_both)
    rw [show h.c.length = 2 by rw [hc]; rfl, hw]; decide +kernel
theorem two_plus {h : Hm} {ns : List Str} (o : okH h ns) : (2 : Int) + (if decide (h.c.length = 2) = true then 1 else 0) = ((1 + h.c.length : Nat) : Int) := by
  have := o.cl
  by_cases e : h.c.length = 2
  · rw [decide_eq_true e, if_pos rfl]; omega
  · rw [decide_eq_false e, if_neg Bool.false_ne_true]; omega
theorem cut_cells {h : Hm} {ns : List Str} (o : okH h ns) : cutV (hV h) (some 1) (some ((1 + h.c.length : Nat) : Int)) = h.c.map V.int := by
  have hl : (hV h).length = 1 + h.c.length + h.r.length := by unfold hV; simp; omega
  rw [show (1 : Int) = ((1 : Nat) : Int) from rfl, cut_mid, hl, show min (1 + h.c.length) (1 + h.c.length + h.r.length) - min 1 (1 + h.c.length + h.r.length) = h.c.length by omega, show min 1 (1 + h.c.length + h.r.length) = 1 by omega]
  unfold hV
  rw [List.drop_succ_cons, List.drop_zero, List.take_append_of_le_length (by simp), List.take_of_length_le (by simp)]
theorem cut_rest {h : Hm} : cutV (hV h) (some ((1 + h.c.length : Nat) : Int)) none = h.r := by
  rw [cut_drop]
  unfold hV
  rw [Nat.add_comm, List.drop_succ_cons, List.drop_append_of_le_length (by simp), List.drop_of_length_le (by simp)]
  rfl
theorem firstL_congr {f g : Nat → Int} : ∀ i, (∀ j, j < i → f j = g j) → firstL f i = firstL g i
  | 0, _ => rfl
  | i + 1, h => by
    show (if f i ∈ firstL f i then firstL f i else firstL f i ++ [f i]) = (if g i ∈ firstL g i then firstL g i else firstL g i ++ [g i])
    rw [firstL_congr i fun j hj => h j (by omega), h i (by omega)]
theorem uniq_snoc (l : List Int) (x : Int) : uniq (l ++ [x]) = if x ∈ uniq l then uniq l else uniq l ++ [x] := by
  unfold uniq
  rw [List.length_append, List.length_singleton]
  show (if (l ++ [x]).getD l.length 0 ∈ firstL (fun i => (l ++ [x]).getD i 0) l.length then firstL (fun i => (l ++ [x]).getD i 0) l.length else firstL (fun i => (l ++ [x]).getD i 0) l.length ++ [(l ++ [x]).getD l.length 0]) = _
  have e1 : (l ++ [x]).getD l.length 0 = x := by simp
  have e2 : firstL (fun i => (l ++ [x]).getD i 0) l.length = firstL (fun i => l.getD i 0) l.length := firstL_congr _ fun j hj => by
    show (l ++ [x]).getD j 0 = l.getD j 0
    rw [List.getD_eq_getElem?_getD, List.getElem?_append_left hj, List.getD_eq_getElem?_getD]
  rw [e1, e2]
theorem first_ne (h : Hm) {o : Option Int} : ¬ (HT.sIx (hV h).length 0 (some 1) = 0 ∧ HT.sIx (hV h).length (hV h).length o = (hV h).length) := by
  rintro ⟨h0, _⟩
  unfold hV HT.sIx at h0
  simp at h0
theorem rest_ne (h : Hm) {n : Nat} : ¬ (HT.sIx (hV h).length 0 (some ((1 + n : Nat) : Int)) = 0 ∧ HT.sIx (hV h).length (hV h).length none = (hV h).length) := by
  rintro ⟨h0, _⟩
  rw [HT.sIx_nat] at h0
  unfold hV at h0
  simp at h0
def two5 : List Str := ["turns", "sets", "keeps", "other", "both"]
theorem tw {h : Hm} {ns : List Str} (o : okH h ns) : V.int (2 + (if (inV (.str h.w) (two5.map V.str)) = true then 1 else 0)) = V.int ((1 + h.c.length : Nat) : Int) := by
  rw [show inV (.str h.w) (two5.map V.str) = decide (h.c.length = 2) from two_is o, two_plus o]
theorem int_mem {x : Int} {l : List Int} : inV (.int x) (l.map V.int) = decide (x ∈ l) := by
  unfold inV
  rw [Bool.eq_iff_iff]
  simp only [List.any_map, List.any_eq_true, Function.comp_apply, decide_eq_true_eq]
  constructor
  · rintro ⟨y, hy, e⟩
    have : y = x := by simpa [eqV] using e
    rw [← this]; exact hy
  · intro h
    exact ⟨x, h, by simp [eqV]⟩
section
variable {P : Program} {w : World} {K : PySem.W.Frag} {mg : Str → Option Value} {base : Heap}
def sp_llittle : Sp := fun vs H Q _ => ∃ L us hs S, vs = [.ref L] ∧ H L = some (.lst us) ∧ HsV H us hs ∧ okHs hs S ∧
  ∀ (r A D : Addr) (us' : List V) (H' : Hp), Same H H' → H' r = some (.tup [.ref A, .ref D]) → H A = none → H D = none → A ≠ D → H' A = some (.lst ((ownC hs).map V.int)) → H' D = some (.lst us') → HsV H' us' (hs.map (rnH (ixF (ownC hs)))) → Q (.ref r) H'
abbrev s__law_little : Stmt := top 29
theorem sc__law_little : FnScope ["_law_harms_here", "_law_cells", "_law_harm_here", "_law_part", "_law_found", "_law_two", "_law_parts"] ["_law_harms_here"] (defScope s__law_little) := ⟨rfl, rfl, rfl, by decide +kernel, rfl, by decide +kernel, by decide +kernel⟩
/- slots: 0 _law_harms_here, 1 _law_cells, 2 _law_harm_here, 3 _law_part, 4 _law_found, 5 _law_two, 6 _law_parts; cells: _law_cells -/
theorem ok_llittle (B : Bl mg) (F : FnAt K mg "_law_little" s__law_little ["_law_harms_here"]) : Has P w K mg base 1 "_law_little" ["_law_harms_here"] sp_llittle := by
  refine Has.ofQ F sc__law_little (fun vs H Q E h => ?_) (fun f cdv A outer s H vs Q E hr h => ?_)
  · obtain ⟨L, us, hs, S, rfl, _⟩ := h
    rfl
  · obtain ⟨L, us, hs, S, rfl, hL, hv, ok, k⟩ := h
    have sc := sc__law_little
    refine ⟨_, (qss_litQ rfl (qss_cons (qs_setE (i := 1) sc.nd rfl (Or.inr rfl) (qe_lst qa_nil))
      (qss_cons (qs_for PassesOwn.never rfl (qi_list (qe_of (pv 0))) (pg_name (i := 2) sc.nd rfl (Or.inl rfl))
        (qss_one (qs_for PassesOwn.never rfl (qi_tup (qe_sl sl_tup (qe_of (pv 2)) (po_some pe_int) (po_some (pe_op op_add pe_int (pe_callTy call_int1 rfl (B.of rfl) boot_int (pa_cons (pe_cmpR op_in_seq (pe_ix ix_tup (pv 2) pe_int (fun _ _ => rfl)) (pe_tup (pa_cs pe_str (pa_cs pe_str (pa_cs pe_str (pa_cs pe_str (pa_cs pe_str pa_nil)))))) (by with_unfolding_all rfl)) pa_nil)))))) (pg_name (i := 3) sc.nd rfl (Or.inl rfl))
          (qss_one (qs_setE (i := 1) sc.nd rfl (Or.inr rfl) (qe_op op_cat (qe_of (pv 1)) (qe_op op_rep (qe_lst (qa_nm (qe_of (pv 3)) qa_nil)) (qe_callTy call_int1 rfl (B.of rfl) boot_int (qa_cp (qe_cmpR op_notIn_seq (qe_of (pv 3)) (qe_of (pv 1)) (by with_unfolding_all rfl)) qa_nil)))))))))
      (qss_cons (qs_setE (i := 1) sc.nd rfl (Or.inr rfl) (qe_callB call_sortedI rfl (B.of rfl) boot_sortedF (qa_nm (qe_of (pv 1)) qa_nil)))
      (qss_cons (qs_setE (i := 4) sc.nd rfl (Or.inl rfl) (qe_lst qa_nil))
      (qss_cons (qs_for PassesOwn.never rfl (qi_list (qe_of (pv 0))) (pg_name (i := 2) sc.nd rfl (Or.inl rfl))
        (qss_cons (qs_setE (i := 5) sc.nd rfl (Or.inl rfl) (qe_cmpR op_in_seq (qe_ix ix_tup (qe_of (pv 2)) (qe_of pe_int) (fun _ _ => rfl)) (qe_tstrs (xs := ["turns", "sets", "keeps", "other", "both"]) (by decide +kernel)) (by with_unfolding_all rfl)))
        (qss_cons (qs_of (ps_setC (i := 6) rfl sc.nd rfl (Or.inl rfl) rfl (compOk_of rfl) (M := ["_law_part", "_law_cells"]) (ix := [none, some 1]) (pi_tup (pe_slice sl_tup (pv 2) (po_some pe_int) (po_some (pe_op op_add pe_int (pe_callTy call_int1 rfl (B.of rfl) boot_int (pa_cons (pv 5) pa_nil)))))) (fun _ _ _ _ => (pg_name (i := 0) (show List.Nodup (["_law_part", "_law_cells"] : List Str) by decide +kernel) rfl (Or.inl rfl))) (fun _ _ _ _ => pts_nil) (fun _ _ _ _ => (pe_bmK (K := K) rfl PySem.F.plainAttrs_list PySem.F.slot_list_index PySem.F.type_list_index mt_indexI (pv 1) (pa_cons (pv 0) pa_nil)))))
        (qss_one (qs_expr (qe_bm PySem.F.plainAttrs_list PySem.F.slot_list_append PySem.F.type_list_append mt_append (qe_of (pv 4)) (qa_bo (qe_op op_catT (qe_op op_catT (qe_tup (qa_sb (qe_ix ix_tup (qe_of (pv 2)) (qe_of pe_int) (fun _ _ => rfl)) qa_nil)) (qe_callTy call_tuple_of rfl (B.of rfl) boot_tuple (qa_nm (qe_of (pv 6)) qa_nil))) (qe_sl sl_tup (qe_of (pv 2)) (po_some (pe_op op_add pe_int (pe_callTy call_int1 rfl (B.of rfl) boot_int (pa_cons (pv 5) pa_nil)))) po_none)) qa_nil)))))))
      (qss_one (qs_retE (qe_tup (qa_nm (qe_of (pv 1)) (qa_nm (qe_of (pv 4)) qa_nil))))))))))), ?_⟩
    have z1 : 1 ≤ sizeLine := by decide
    have z5 : 5 ≤ sizeLine := by decide
    have al : ∀ i, (allC (hs.take i)).length ≤ 6 := fun i => by
      have h1 := ok.clen (l := hs.take i) fun h hh => List.mem_of_mem_take hh
      have h2 := ok.len
      rw [List.length_take] at h1
      omega
    refine ⟨Nat.zero_le _, fun p0 hp0 => ?_⟩
    generalize hG0 : upd H p0 _ = H0
    have s0 : Same H H0 := by rw [← hG0]; exact (Same.refl H).upd hp0
    have f0 : H0 p0 = some (.lst []) := by rw [← hG0]; exact upd_same
    refine ⟨_, rfl, L, rfl, ⟨_, SqL.of (s0 _ _ hL)⟩, for_list (xs := us) (fun i σ H' => ∃ (p : Addr) (o2 o3 : Option V), σ = [some (.ref L), some (.ref p), o2, o3, none, none, none] ∧ Same H H' ∧ H' p = some (.lst ((uniq (allC (hs.take i))).map V.int)) ∧ H p = none) ⟨p0, _, _, rfl, s0, f0, hp0⟩ (fun i σ H' _ ⟨_, _, _, _, s, _⟩ => SqL.of (s _ _ hL)) ?_ ?_⟩
    · rintro i x σ H1 hx ⟨p, o2, o3, rfl, s1, e1, n1⟩
      obtain ⟨g, hg, hat⟩ := hv.get hx
      obtain ⟨nn, og⟩ := ok.ok g (List.mem_of_getElem? hg)
      obtain ⟨a, rfl, ha⟩ := HAt.same s1 hat
      refine ⟨_, rfl, 1, rfl, _, rfl, a, _, _, _, rfl, rfl, SqT.of ha, atI_lit 0 rfl, z5, fun t ht => ?_⟩
      generalize hG2 : upd H1 t _ = H2
      have s2 : Same H1 H2 := by rw [← hG2]; exact (Same.refl H1).upd ht
      have f2 : H2 t = some (.tup (two5.map V.str)) := by rw [← hG2]; exact upd_same
      refine ⟨t, two5.map V.str, rfl, .inr (SqT.of f2), rfl, rfl, .inr ⟨_, rfl, _, _, rfl, rfl, _, tw og, a, _, rfl, SqT.of (s2 _ _ ha), first_ne g, fun q hq => ?_⟩⟩
      rw [cut_cells og]
      generalize hG3 : upd H2 q _ = H3
      have s3 : Same H2 H3 := by rw [← hG3]; exact (Same.refl H2).upd hq
      have f3 : H3 q = some (.tup (g.c.map V.int)) := by rw [← hG3]; exact upd_same
      have s13 := (s1.trans s2).trans s3
      refine ⟨q, rfl, ⟨_, SqT.of f3⟩, for_tup (xs := g.c.map V.int) (fun j σ H' => ∃ (p : Addr) (o3 : Option V), σ = [some (.ref L), some (.ref p), some (.ref a), o3, none, none, none] ∧ Same H H' ∧ H' q = some (.tup (g.c.map V.int)) ∧ H' p = some (.lst ((uniq (allC (hs.take i) ++ g.c.take j)).map V.int)) ∧ H p = none) ⟨p, _, rfl, s13, f3, by rw [List.take_zero, List.append_nil]; exact (s2.trans s3) _ _ e1, n1⟩ (fun j σ H' _ ⟨_, _, _, _, e, _⟩ => SqT.of e) ?_ ?_⟩
      · rintro j y σ H4 hy ⟨p', o3', rfl, s4, e4, e5, n5⟩
        obtain ⟨c, hc, rfl⟩ := int_get hy
        refine ⟨_, rfl, _, rfl, z1, fun b hb => ?_⟩
        generalize hG5 : upd H4 b _ = H5
        have s5 : Same H4 H5 := by rw [← hG5]; exact (Same.refl H4).upd hb
        have f5 : H5 b = some (.lst [.int c]) := by rw [← hG5]; exact upd_same
        have hlen : (uniq (allC (hs.take i) ++ g.c.take j)).length ≤ 8 := by
          have h1 := uniq_len (allC (hs.take i) ++ g.c.take j)
          have h2 := al i
          have h3 := og.cl
          rw [List.length_append, List.length_take] at h1
          omega
        have hnew : uniq (allC (hs.take i) ++ g.c.take (j + 1)) = if c ∈ uniq (allC (hs.take i) ++ g.c.take j) then uniq (allC (hs.take i) ++ g.c.take j) else uniq (allC (hs.take i) ++ g.c.take j) ++ [c] := by
          rw [List.take_add_one, hc, ← uniq_snoc, List.append_assoc]
          rfl
        obtain ⟨m, em, hm1, hval⟩ : ∃ m : Nat, (if (!inV (.int c) ((uniq (allC (hs.take i) ++ g.c.take j)).map V.int)) = true then (1 : Int) else 0) = m ∧ m ≤ 1 ∧ uniq (allC (hs.take i) ++ g.c.take j) ++ List.replicate m c = uniq (allC (hs.take i) ++ g.c.take (j + 1)) := by
          rw [hnew, int_mem]
          by_cases hm : c ∈ uniq (allC (hs.take i) ++ g.c.take j)
          · exact ⟨0, by simp [hm], by omega, by simp [hm]⟩
          · exact ⟨1, by simp [hm], by omega, by simp [hm]⟩
        refine ⟨_, rfl, _, rfl, p', _, rfl, .inl (SqL.of (s5 _ _ e5)), rfl, by simp [flatV], .inr ⟨_, rfl, b, m, _, rfl, congrArg V.int em, f5, by omega, by omega, sl_le (by rw [Int.toNat_natCast]; simp; omega), fun b2 hb2 => ?_⟩⟩
        generalize hG6 : upd H5 b2 _ = H6
        have s6 : Same H5 H6 := by rw [← hG6]; exact (Same.refl H5).upd hb2
        have f6 : H6 b2 = some (.lst ((List.replicate m c).map V.int)) := by
          rw [← hG6]
          refine upd_same.trans ?_
          rw [Int.toNat_natCast]
          simp
        have s56 := s5.trans s6
        refine ⟨p', b2, _, _, rfl, rfl, s56 _ _ e5, f6, sl_le (by simp; omega), fun b3 hb3 => ?_⟩
        refine ⟨b3, _, rfl, (s4.trans s56).upd hb3, ((s56.upd hb3) _ _ e4), ?_, (s4.trans s56).free hb3⟩
        rw [upd_same, ← List.map_append, hval]
      · rintro σ H4 ⟨p', o3', rfl, s4, e4, e5, n5⟩
        rw [List.length_map, List.take_length, ← allC_take hg] at e5
        exact ⟨p', _, _, rfl, s4, e5, n5⟩
    · rintro σ H1 ⟨p, o2, o3, rfl, s1, e1, n1⟩
      rw [hv.len, List.take_length] at e1
      have ulen : (uniq (allC hs)).length ≤ 3 := ok.few (l := hs) fun h hh => hh
      refine ⟨_, rfl, p, _, rfl, e1, by omega, fun pA ns hA hp1 hp2 => ?_⟩
      have := own_eq hp1 hp2
      subst this
      generalize hG2 : upd H1 pA _ = H2
      have s2 : Same H1 H2 := by rw [← hG2]; exact (Same.refl H1).upd hA
      have f2 : H2 pA = some (.lst ((ownC hs).map V.int)) := by rw [← hG2]; exact upd_same
      have nA : H pA = none := s1.free hA
      refine ⟨Nat.zero_le _, fun pD hD => ?_⟩
      have nAD : pA ≠ pD := fun z => by subst z; rw [f2] at hD; cases hD
      generalize hG3 : upd H2 pD _ = H3
      have s3 : Same H2 H3 := by rw [← hG3]; exact (Same.refl H2).upd hD
      have f3 : H3 pD = some (.lst []) := by rw [← hG3]; exact upd_same
      have s12 := s1.trans s2
      have s13 := s12.trans s3
      have nD : H pD = none := s12.free hD
      refine ⟨_, rfl, L, rfl, ⟨_, SqL.of (s13 _ _ hL)⟩, for_list (xs := us) (fun i σ H' => ∃ (us' : List V) (o2 o3 o5 o6 : Option V), σ = [some (.ref L), some (.ref pA), o2, o3, some (.ref pD), o5, o6] ∧ Same H H' ∧ H' pA = some (.lst ((ownC hs).map V.int)) ∧ H' pD = some (.lst us') ∧ HsV H' us' ((hs.take i).map (rnH (ixF (ownC hs))))) ⟨[], _, _, _, _, rfl, s13, s3 _ _ f2, f3, ⟨rfl, fun i v h a b => by simp at a⟩⟩ (fun i σ H' _ ⟨_, _, _, _, _, _, s, _⟩ => SqL.of (s _ _ hL)) ?_ ?_⟩
      · rintro i x σ H4 hx ⟨us', o2', o3', o5, o6, rfl, s4, eA, eD, hv4⟩
        obtain ⟨g, hg, hat⟩ := hv.get hx
        have hgm := List.mem_of_getElem? hg
        obtain ⟨nn, og⟩ := ok.ok g hgm
        obtain ⟨a, rfl, ha⟩ := HAt.same s4 hat
        refine ⟨_, rfl, a, _, _, _, rfl, rfl, SqT.of ha, atI_lit 0 rfl, z5, fun t ht => ?_⟩
        generalize hG5 : upd H4 t _ = H5
        have s5 : Same H4 H5 := by rw [← hG5]; exact (Same.refl H4).upd ht
        have f5 : H5 t = some (.tup (two5.map V.str)) := by rw [← hG5]; exact upd_same
        refine ⟨t, two5.map V.str, rfl, .inr (SqT.of f5), rfl, rfl, ?_⟩
        refine ⟨_, rfl, 1, rfl, _, rfl, .inr ⟨_, rfl, _, _, rfl, rfl, _, tw og, a, _, rfl, SqT.of (s5 _ _ ha), first_ne g, fun q hq => ?_⟩⟩
        rw [cut_cells og]
        generalize hG6 : upd H5 q _ = H6
        have s6 : Same H5 H6 := by rw [← hG6]; exact (Same.refl H5).upd hq
        have f6 : H6 q = some (.tup (g.c.map V.int)) := by rw [← hG6]; exact upd_same
        have s46 := s5.trans s6
        refine ⟨q, rfl, ⟨_, SqT.of f6⟩, fun D hD' => comp_by (n := (g.c.map V.int).length) (fun j H' => Same H6 H' ∧ H' D = some (.lst (((g.c.map (ixF (ownC hs))).take j).map V.int))) ⟨(Same.refl H6).upd hD', upd_same⟩ ?_ ?_⟩
        · rintro H7 ⟨s7, e7⟩
          refine ⟨⟨_, SqT.of (s7 _ _ f6), Nat.le_refl _⟩, ?_⟩
          rw [List.take_of_length_le (by simp)] at e7
          have s47 := s46.trans s7
          have ha7 := s47 _ _ ha
          have ocl := og.cl
          have hsl3 := ok.len
          have orl := og.rl
          have ors := og.rest.len
          refine ⟨_, rfl, .inl ⟨rfl, _, SqL.of (s47 _ _ eD)⟩, ?_⟩
          refine ⟨_, rfl, a, _, _, _, rfl, rfl, SqT.of ha7, atI_lit 0 rfl, z1, fun t1 ht1 => ?_⟩
          generalize hG8 : upd H7 t1 _ = H8
          have s8 : Same H7 H8 := by rw [← hG8]; exact (Same.refl H7).upd ht1
          have f8 : H8 t1 = some (.tup [.str g.w]) := by rw [← hG8]; exact upd_same
          refine ⟨_, rfl, D, _, rfl, .inl ⟨SqL.of (s8 _ _ e7), fun t2 ht2 => ?_⟩⟩
          generalize hG9 : upd H8 t2 _ = H9
          have s9 : Same H8 H9 := by rw [← hG9]; exact (Same.refl H8).upd ht2
          have f9 : H9 t2 = some (.tup ((g.c.map (ixF (ownC hs))).map V.int)) := by rw [← hG9]; exact upd_same
          refine ⟨t1, t2, _, _, rfl, rfl, SqT.of (s9 _ _ f8), SqT.of f9, by simp, sl_le (by simp; omega), (fun z => by have := congrArg List.length z; rw [List.length_map, List.length_map] at this; simp at this; rw [this] at ocl; simp at ocl), fun _ t3 ht3 => ?_⟩
          generalize hG10 : upd H9 t3 _ = H10
          have s10 : Same H9 H10 := by rw [← hG10]; exact (Same.refl H9).upd ht3
          have f10 : H10 t3 = some (.tup ([.str g.w] ++ (g.c.map (ixF (ownC hs))).map V.int)) := by rw [← hG10]; exact upd_same
          have s710 := (s8.trans s9).trans s10
          refine ⟨_, rfl, _, rfl, .inr ⟨_, rfl, _, _, rfl, rfl, _, tw og, a, _, rfl, SqT.of (s710 _ _ ha7), rest_ne g, fun t4 ht4 => ?_⟩⟩
          rw [cut_rest]
          generalize hG11 : upd H10 t4 _ = H11
          have s11 : Same H10 H11 := by rw [← hG11]; exact (Same.refl H10).upd ht4
          have f11 : H11 t4 = some (.tup g.r) := by rw [← hG11]; exact upd_same
          have hul := hv4.len
          rw [List.length_map, List.length_take] at hul
          have done : ∀ tt H12, Same H11 H12 → H12 tt = some (.tup (hV (rnH (ixF (ownC hs)) g))) → Same H (upd H12 pD (.lst (us' ++ [.ref tt]))) ∧ (upd H12 pD (.lst (us' ++ [.ref tt]))) pA = some (.lst ((ownC hs).map V.int)) ∧ HsV (upd H12 pD (.lst (us' ++ [.ref tt]))) (us' ++ [.ref tt]) ((hs.take (i + 1)).map (rnH (ixF (ownC hs)))) := fun tt H12 s12 e12 => by
            have s412 := s47.trans ((s710.trans s11).trans s12)
            refine ⟨(s4.trans s412).at nD, by rw [upd_ne nAD]; exact s412 _ _ eA, ?_⟩
            rw [List.take_add_one, hg, List.map_append]
            exact ((hv4.same s412).snoc ⟨tt, rfl, e12⟩).upL (s412 _ _ eD)
          refine ⟨t3, t4, _, _, rfl, rfl, SqT.of (s11 _ _ f10), SqT.of f11, by simp, sl_le (by simp; omega), fun z => ?_, fun _ t5 ht5 => ?_⟩
          · have e12 : H11 t3 = some (.tup (hV (rnH (ixF (ownC hs)) g))) := by
              rw [s11 _ _ f10]
              unfold hV rnH
              rw [z, List.append_nil]
              rfl
            obtain ⟨d1, d2, d3⟩ := done t3 H11 (Same.refl _) e12
            exact ⟨pD, us', _, rfl, rfl, (s47.trans (s710.trans s11)) _ _ eD, sl_lt (by omega), _, _, _, _, _, rfl, d1, d2, upd_same, d3⟩
          · have s12 := (Same.refl H11).upd (o := .tup ([V.str g.w] ++ (g.c.map (ixF (ownC hs))).map V.int ++ g.r)) ht5
            obtain ⟨d1, d2, d3⟩ := done t5 _ s12 (by rw [upd_same]; unfold hV rnH; simp)
            exact ⟨pD, us', _, rfl, rfl, ((s47.trans (s710.trans s11)).trans s12) _ _ eD, sl_lt (by omega), _, _, _, _, _, rfl, d1, d2, upd_same, d3⟩
        · rintro j H7 hj ⟨s7, e7⟩
          refine ⟨⟨_, _, SqT.of (s7 _ _ f6), List.getElem?_eq_getElem hj⟩, ?_⟩
          rintro y H8 ⟨rfl, hy⟩
          obtain ⟨c, hc, rfl⟩ := int_get (hy _ (SqT.of (s7 _ _ f6)))
          have hcm := own_mem hgm (List.mem_of_getElem? hc)
          have hix : (ownC hs).idxOf c < (ownC hs).length := List.idxOf_lt_length_iff.mpr hcm
          refine ⟨KeepS.set (KeepS.refl _) rfl, yes ?_⟩
          have eA7 := (s46.trans s7) _ _ eA
          refine ⟨_, rfl, .inl ⟨rfl, _, SqL.of eA7⟩, _, rfl, pA, ownC hs, c, (ownC hs).idxOf c, rfl, rfl, eA7, ?_, ?_, ?_⟩
          · rw [List.getElem?_eq_getElem hix, List.getElem_idxOf]
          · intro m hm z
            have hml : m < (ownC hs).length := by omega
            rw [List.getElem?_eq_getElem hml] at z
            refine List.pairwise_iff_getElem.mp (own_nd hs) m _ hml hix hm ?_
            rw [List.getElem_idxOf]
            exact Option.some.inj z
          · refine ⟨_, e7, sl_lt (by have := og.cl; simp; omega), s7.at hD', ?_⟩
            rw [upd_same, List.take_add_one, List.getElem?_map, hc, List.map_append]
            rfl
      · rintro σ H4 ⟨us', o2', o3', o5, o6, rfl, s4, eA, eD, hv4⟩
        rw [hv.len, List.take_length] at hv4
        refine ⟨_, rfl, _, rfl, (by show 2 ≤ sizeLine; decide), fun r hr' => ?_⟩
        have sr := (Same.refl H4).upd (o := .tup [.ref pA, .ref pD]) hr'
        exact k r pA pD us' _ (s4.trans sr) upd_same nA nD nAD (sr _ _ eA) (sr _ _ eD) (hv4.same sr)
end
end Mh
set_option Elab.async false
set_option linter.all false
set_option maxRecDepth 100000
set_option maxHeartbeats 4000000
namespace Mh
open PySem L2 PyProof.Rows Mx
theorem okH.rn {h : Hm} {ns : List Str} {f : Int → Int} (o : okH h ns) (hr : ∀ c ∈ h.c, 0 ≤ f c ∧ f c < 64) (hi : ∀ a ∈ h.c, ∀ b ∈ h.c, f a = f b → a = b) : okH (rnH f h) ns where
  tab := by show KTD.datumAt h.w tabP = some (namesOf (h.c.map f).length ns); rw [List.length_map]; exact o.tab
  rest := o.rest
  cl := by show 1 ≤ (h.c.map f).length ∧ (h.c.map f).length ≤ 2; rw [List.length_map]; exact o.cl
  rl := o.rl
  nd := by
    show (h.c.map f).Nodup
    refine List.pairwise_map.mpr ?_
    refine List.Pairwise.imp_of_mem (fun {a b} ha hb hne z => hne (hi a ha b hb z)) o.nd
  rg := fun x hx => by
    obtain ⟨c, hc, rfl⟩ := List.mem_map.mp hx
    exact hr c hc
theorem okHs.rn {hs : List Hm} {S : List Int} {f : Int → Int} (o : okHs hs S) (hr : ∀ h ∈ hs, ∀ c ∈ h.c, 0 ≤ f c ∧ f c < 64) (hi : ∀ h ∈ hs, ∀ a ∈ h.c, ∀ b ∈ h.c, f a = f b → a = b) : okHs (hs.map (rnH f)) (S.map f) where
  len := by rw [List.length_map]; exact o.len
  ok := fun g hg => by
    obtain ⟨h, hh, rfl⟩ := List.mem_map.mp hg
    obtain ⟨ns, oh⟩ := o.ok h hh
    exact ⟨ns, oh.rn (hr h hh) (hi h hh)⟩
  sl := by rw [List.length_map]; exact o.sl
  mem := fun g hg c hc => by
    obtain ⟨h, hh, rfl⟩ := List.mem_map.mp hg
    obtain ⟨c', hc', rfl⟩ := List.mem_map.mp hc
    exact List.mem_map.mpr ⟨c', o.mem h hh c' hc', rfl⟩
theorem ix_rg {hs : List Hm} {S : List Int} (ok : okHs hs S) : ∀ h ∈ hs, ∀ c ∈ h.c, 0 ≤ ixF (ownC hs) c ∧ ixF (ownC hs) c < 64 := fun h hh c hc => by
  have hi : (ownC hs).idxOf c < (ownC hs).length := List.idxOf_lt_length_iff.mpr (own_mem hh hc)
  have := own_few ok
  unfold ixF
  omega
theorem idx_inj {l : List Int} {a b : Int} (ha : a ∈ l) (hb : b ∈ l) (e : l.idxOf a = l.idxOf b) : a = b := by
  have h1 : l[l.idxOf a]'(List.idxOf_lt_length_iff.mpr ha) = a := List.getElem_idxOf _
  have h2 : l[l.idxOf b]'(List.idxOf_lt_length_iff.mpr hb) = b := List.getElem_idxOf _
  rw [← h1, ← h2]
  congr 1
theorem ix_inj {hs : List Hm} : ∀ h ∈ hs, ∀ a ∈ h.c, ∀ b ∈ h.c, ixF (ownC hs) a = ixF (ownC hs) b → a = b := fun h hh a ha b hb e => by
  unfold ixF at e
  exact idx_inj (own_mem hh ha) (own_mem hh hb) (by omega)
theorem rn_rn {f g : Int → Int} (h : Hm) : rnH g (rnH f h) = rnH (fun c => g (f c)) h := by
  unfold rnH
  simp [Function.comp_def]
theorem head_ne {h : Hm} {ns : List Str} (o : okH h ns) : ¬ (HT.sIx (hV h).length 0 none = 0 ∧ HT.sIx (hV h).length (hV h).length (some 1) = (hV h).length) := by
  rintro ⟨_, h0⟩
  rw [show (1 : Int) = ((1 : Nat) : Int) from rfl, HT.sIx_nat] at h0
  have := o.cl
  have hl : (hV h).length = 1 + h.c.length + h.r.length := by unfold hV; simp; omega
  rw [hl] at h0
  omega
theorem cut_head (h : Hm) : cutV (hV h) none (some 1) = [.str h.w] := by
  rw [show (1 : Int) = ((1 : Nat) : Int) from rfl, cut_take]
  rfl
section
variable {P : Program} {w : World} {K : PySem.W.Frag} {mg : Str → Option Value} {base : Heap}
def sp_lplaced : Sp := fun vs H Q _ => ∃ L us hs S Cl cl, vs = [.ref L, .ref Cl] ∧ H L = some (.lst us) ∧ HsV H us hs ∧ okHs hs S ∧ H Cl = some (.lst ((cl : List Int).map V.int)) ∧ (ownC hs).length ≤ cl.length ∧
  ∀ (D : Addr) (us' : List V) (H' : Hp), Same H H' → H D = none → H' D = some (.lst us') → HsV H' us' (hs.map (rnH (plF (ownC hs) cl))) → Q (.ref D) H'
abbrev s__law_placed : Stmt := top 30
theorem sc__law_placed : FnScope ["_law_harms_here", "_law_cells", "_law_own", "_law_small", "_law_found", "_law_harm_here", "_law_two"] ["_law_harms_here", "_law_cells"] (defScope s__law_placed) := ⟨rfl, rfl, rfl, by decide +kernel, rfl, by decide +kernel, by decide +kernel⟩
/- slots: 0 _law_harms_here, 1 _law_cells, 2 _law_own, 3 _law_small, 4 _law_found, 5 _law_harm_here, 6 _law_two; cells: _law_cells -/
theorem ok_lplaced (B : Bl mg) (h__law_little : Has P w K mg base 1 "_law_little" ["_law_harms_here"] sp_llittle) (F : FnAt K mg "_law_placed" s__law_placed ["_law_harms_here", "_law_cells"]) : Has P w K mg base 2 "_law_placed" ["_law_harms_here", "_law_cells"] sp_lplaced := by
  refine Has.ofQ F sc__law_placed (fun vs H Q E h => ?_) (fun f cdv A outer s H vs Q E hr h => ?_)
  · obtain ⟨L, us, hs, S, Cl, cl, rfl, _⟩ := h
    rfl
  · obtain ⟨L, us, hs, S, Cl, cl, rfl, hL, hv, ok, hCl, hlen, k⟩ := h
    have sc := sc__law_placed
    refine ⟨_, (qss_litQ rfl (qss_cons (qs_asg (qe_callH h__law_little hr (qa_nm (qe_of (pv 0)) qa_nil)) (pg_tup rfl (pgs_cons (pg_name (i := 2) sc.nd rfl (Or.inl rfl)) (pgs_cons (pg_name (i := 3) sc.nd rfl (Or.inl rfl)) pgs_nil))))
      (qss_cons (qs_setE (i := 4) sc.nd rfl (Or.inl rfl) (qe_lst qa_nil))
      (qss_cons (qs_for PassesOwn.never rfl (qi_list (qe_of (pv 3))) (pg_name (i := 5) sc.nd rfl (Or.inl rfl))
        (qss_cons (qs_setE (i := 6) sc.nd rfl (Or.inl rfl) (qe_callTy call_int1 rfl (B.of rfl) boot_int (qa_cp (qe_cmpR op_in_seq (qe_ix ix_tup (qe_of (pv 5)) (qe_of pe_int) (fun _ _ => rfl)) (qe_tstrs (xs := ["turns", "sets", "keeps", "other", "both"]) (by decide +kernel)) (by with_unfolding_all rfl)) qa_nil)))
        (qss_one (qs_expr (qe_bm PySem.F.plainAttrs_list PySem.F.slot_list_append PySem.F.type_list_append mt_append (qe_of (pv 4)) (qa_bo (qe_op op_catT (qe_op op_catT (qe_sl sl_tup (qe_of (pv 5)) po_none (po_some pe_int)) (qe_callTy call_tuple_of rfl (B.of rfl) boot_tuple (qa_lc (qe_of (pe_comp rfl (compOk_of rfl) (M := ["_law_part", "_law_cells"]) (ix := [none, some 1]) (pi_tup (pe_slice sl_tup (pv 5) (po_some pe_int) (po_some (pe_op op_add pe_int (pv 6))))) (fun _ _ _ _ => (pg_name (i := 0) (show List.Nodup (["_law_part", "_law_cells"] : List Str) by decide +kernel) rfl (Or.inl rfl))) (fun _ _ _ _ => pts_nil) (fun _ _ _ _ => (pe_ix (ix_listK (K := K) rfl) (pv 1) (pv 0) (fun _ _ => rfl))))) qa_nil))) (qe_sl sl_tup (qe_of (pv 5)) (po_some (pe_op op_add pe_int (pv 6))) po_none)) qa_nil))))))
      (qss_one (qs_retE (qe_of (pv 4)))))))), ?_⟩
    have z1 : 1 ≤ sizeLine := by decide
    have z5 : 5 ≤ sizeLine := by decide
    have h3 := ok.len
    refine ⟨_, rfl, L, us, hs, S, rfl, hL, hv, ok, fun r pA pS us1 H1 s1 er nA nS nAS eA eS hv1 => ?_⟩
    refine ⟨r, _, rfl, SqT.of er, rfl, _, _, rfl, _, _, rfl, rfl, ?_⟩
    have ok1 := ok.rn (ix_rg ok) ix_inj
    generalize hg1 : hs.map (rnH (ixF (ownC hs))) = hs1 at hv1 ok1
    refine ⟨Nat.zero_le _, fun pD hD => ?_⟩
    generalize hG2 : upd H1 pD _ = H2
    have s2 : Same H1 H2 := by rw [← hG2]; exact (Same.refl H1).upd hD
    have f2 : H2 pD = some (.lst []) := by rw [← hG2]; exact upd_same
    have nD : H pD = none := s1.free hD
    have s12 := s1.trans s2
    have nSD : pS ≠ pD := fun z => by subst z; rw [eS] at hD; cases hD
    have pix : ∀ g ∈ hs1, ∀ c ∈ g.c, ∃ j : Nat, c = (j : Int) ∧ j < cl.length := fun g hg c hc => by
      rw [← hg1] at hg
      obtain ⟨h, hh, rfl⟩ := List.mem_map.mp hg
      obtain ⟨c', hc', rfl⟩ := List.mem_map.mp hc
      exact ⟨_, rfl, Nat.lt_of_lt_of_le (List.idxOf_lt_length_iff.mpr (own_mem hh hc')) hlen⟩
    refine ⟨_, rfl, pS, rfl, ⟨_, SqL.of (s2 _ _ eS)⟩, for_list (xs := us1) (fun i σ H' => ∃ (us' : List V) (o5 o6 : Option V), σ = [some (.ref L), some (.ref Cl), some (.ref pA), some (.ref pS), some (.ref pD), o5, o6] ∧ Same H H' ∧ H' pS = some (.lst us1) ∧ H' pD = some (.lst us') ∧ HsV H' us1 hs1 ∧ HsV H' us' ((hs1.take i).map (rnH (fun c => cl.getD c.toNat 0)))) ⟨[], _, _, rfl, s12, s2 _ _ eS, f2, hv1.same s2, ⟨rfl, fun i v h a b => by simp at a⟩⟩ (fun i σ H' _ ⟨_, _, _, _, _, e, _⟩ => SqL.of e) ?_ ?_⟩
    · rintro i x σ H4 hx ⟨us', o5, o6, rfl, s4, eS4, eD4, hvS, hv4⟩
      obtain ⟨g, hg, hat⟩ := hvS.get hx
      have hgm := List.mem_of_getElem? hg
      obtain ⟨nn, og⟩ := ok1.ok g hgm
      obtain ⟨a, rfl, ha⟩ := hat
      have ocl := og.cl
      have orl := og.rl
      have ors := og.rest.len
      refine ⟨_, rfl, a, _, _, _, rfl, rfl, SqT.of ha, atI_lit 0 rfl, z5, fun t ht => ?_⟩
      generalize hG5 : upd H4 t _ = H5
      have s5 : Same H4 H5 := by rw [← hG5]; exact (Same.refl H4).upd ht
      have f5 : H5 t = some (.tup (two5.map V.str)) := by rw [← hG5]; exact upd_same
      refine ⟨t, two5.map V.str, rfl, .inr (SqT.of f5), rfl, rfl, .inr ⟨_, rfl, ?_⟩⟩
      refine ⟨_, rfl, .inl ⟨rfl, _, SqL.of (s5 _ _ eD4)⟩, ?_⟩
      refine ⟨_, rfl, 1, rfl, a, _, rfl, SqT.of (s5 _ _ ha), head_ne og, fun t1 ht1 => ?_⟩
      rw [cut_head]
      generalize hG8 : upd H5 t1 _ = H8
      have s8 : Same H5 H8 := by rw [← hG8]; exact (Same.refl H5).upd ht1
      have f8 : H8 t1 = some (.tup [.str g.w]) := by rw [← hG8]; exact upd_same
      have s58 := s5.trans s8
      refine ⟨_, rfl, 1, rfl, _, rfl, _, _, rfl, rfl, _, tw og, a, _, rfl, SqT.of (s58 _ _ ha), first_ne g, fun q hq => ?_⟩
      rw [cut_cells og]
      generalize hG6 : upd H8 q _ = H6
      have s6 : Same H8 H6 := by rw [← hG6]; exact (Same.refl H8).upd hq
      have f6 : H6 q = some (.tup (g.c.map V.int)) := by rw [← hG6]; exact upd_same
      have s46 := s58.trans s6
      refine ⟨q, rfl, ⟨_, SqT.of f6⟩, fun D hD' => comp_by (n := (g.c.map V.int).length) (fun j H' => Same H6 H' ∧ H' D = some (.lst (((g.c.map fun c => cl.getD c.toNat 0).take j).map V.int))) ⟨(Same.refl H6).upd hD', upd_same⟩ ?_ ?_⟩
      · rintro H7 ⟨s7, e7⟩
        refine ⟨⟨_, SqT.of (s7 _ _ f6), Nat.le_refl _⟩, ?_⟩
        rw [List.take_of_length_le (by simp)] at e7
        have s47 := s46.trans s7
        have ha7 := s47 _ _ ha
        refine ⟨D, _, rfl, .inl ⟨SqL.of e7, fun t2 ht2 => ?_⟩⟩
        generalize hG9 : upd H7 t2 _ = H9
        have s9 : Same H7 H9 := by rw [← hG9]; exact (Same.refl H7).upd ht2
        have f9 : H9 t2 = some (.tup ((g.c.map fun c => cl.getD c.toNat 0).map V.int)) := by rw [← hG9]; exact upd_same
        refine ⟨t1, t2, _, _, rfl, rfl, SqT.of ((s6.trans (s7.trans s9)) _ _ f8), SqT.of f9, by simp, sl_le (by simp; omega), (fun z => by have := congrArg List.length z; rw [List.length_map, List.length_map] at this; simp at this; rw [this] at ocl; simp at ocl), fun _ t3 ht3 => ?_⟩
        generalize hG10 : upd H9 t3 _ = H10
        have s10 : Same H9 H10 := by rw [← hG10]; exact (Same.refl H9).upd ht3
        have f10 : H10 t3 = some (.tup ([.str g.w] ++ (g.c.map fun c => cl.getD c.toNat 0).map V.int)) := by rw [← hG10]; exact upd_same
        have s710 := s9.trans s10
        refine ⟨_, rfl, _, rfl, _, _, rfl, rfl, _, tw og, a, _, rfl, SqT.of (s710 _ _ ha7), rest_ne g, fun t4 ht4 => ?_⟩
        rw [cut_rest]
        generalize hG11 : upd H10 t4 _ = H11
        have s11 : Same H10 H11 := by rw [← hG11]; exact (Same.refl H10).upd ht4
        have f11 : H11 t4 = some (.tup g.r) := by rw [← hG11]; exact upd_same
        have hul := hv4.len
        rw [List.length_map, List.length_take] at hul
        have h31 := ok1.len
        have done : ∀ tt H12, Same H11 H12 → H12 tt = some (.tup (hV (rnH (fun c => cl.getD c.toNat 0) g))) → Same H (upd H12 pD (.lst (us' ++ [.ref tt]))) ∧ (upd H12 pD (.lst (us' ++ [.ref tt]))) pS = some (.lst us1) ∧ HsV (upd H12 pD (.lst (us' ++ [.ref tt]))) us1 hs1 ∧ HsV (upd H12 pD (.lst (us' ++ [.ref tt]))) (us' ++ [.ref tt]) ((hs1.take (i + 1)).map (rnH fun c => cl.getD c.toNat 0)) := fun tt H12 s12 e12 => by
          have s412 := s47.trans ((s710.trans s11).trans s12)
          refine ⟨(s4.trans s412).at nD, by rw [upd_ne nSD]; exact s412 _ _ eS4, (hvS.same s412).upL (s412 _ _ eD4), ?_⟩
          rw [List.take_add_one, hg, List.map_append]
          exact ((hv4.same s412).snoc ⟨tt, rfl, e12⟩).upL (s412 _ _ eD4)
        refine ⟨t3, t4, _, _, rfl, rfl, SqT.of (s11 _ _ f10), SqT.of f11, by simp, sl_le (by simp; omega), fun z => ?_, fun _ t5 ht5 => ?_⟩
        · have e12 : H11 t3 = some (.tup (hV (rnH (fun c => cl.getD c.toNat 0) g))) := by
            rw [s11 _ _ f10]
            unfold hV rnH
            rw [z, List.append_nil]
            rfl
          obtain ⟨d1, d2, d4, d3⟩ := done t3 H11 (Same.refl _) e12
          exact ⟨pD, us', _, rfl, rfl, (s47.trans (s710.trans s11)) _ _ eD4, sl_lt (by omega), _, _, _, rfl, d1, d2, upd_same, d4, d3⟩
        · have s12 := (Same.refl H11).upd (o := .tup ([V.str g.w] ++ (g.c.map fun c => cl.getD c.toNat 0).map V.int ++ g.r)) ht5
          obtain ⟨d1, d2, d4, d3⟩ := done t5 _ s12 (by rw [upd_same]; unfold hV rnH; simp)
          exact ⟨pD, us', _, rfl, rfl, ((s47.trans (s710.trans s11)).trans s12) _ _ eD4, sl_lt (by omega), _, _, _, rfl, d1, d2, upd_same, d4, d3⟩
      · rintro j H7 hj ⟨s7, e7⟩
        refine ⟨⟨_, _, SqT.of (s7 _ _ f6), List.getElem?_eq_getElem hj⟩, ?_⟩
        rintro y H8' ⟨rfl, hy⟩
        obtain ⟨c, hc, rfl⟩ := int_get (hy _ (SqT.of (s7 _ _ f6)))
        obtain ⟨jj, rfl, hjj⟩ := pix g hgm c (List.mem_of_getElem? hc)
        refine ⟨KeepS.set (KeepS.refl _) rfl, yes ?_⟩
        refine ⟨_, rfl, _, rfl, Cl, _, _, _, rfl, rfl, SqL.of ((s4.trans (s46.trans s7)) _ _ hCl), atI_nat (get_int (List.getElem?_eq_getElem hjj)), ?_⟩
        refine ⟨_, e7, sl_lt (by simp; omega), s7.at hD', ?_⟩
        rw [upd_same, List.take_add_one, List.getElem?_map, hc, List.map_append]
        have : cl.getD ((jj : Int)).toNat 0 = cl[jj] := by rw [Int.toNat_natCast, List.getD_eq_getElem?_getD, List.getElem?_eq_getElem hjj]; rfl
        show _ = some (HO.lst (_ ++ [V.int (cl.getD ((jj : Int)).toNat 0)]))
        rw [this]
    · rintro σ H4 ⟨us', o5, o6, rfl, s4, eS4, eD4, hvS, hv4⟩
      rw [hvS.len, List.take_length, ← hg1, List.map_map] at hv4
      refine ⟨_, rfl, k pD us' H4 s4 nD eD4 ?_⟩
      have : (hs.map (rnH (plF (ownC hs) cl))) = hs.map ((rnH fun c => cl.getD c.toNat 0) ∘ rnH (ixF (ownC hs))) := List.map_congr_left fun h hh => by
        show _ = rnH _ (rnH _ h)
        rw [rn_rn]
        rfl
      rw [this]
      exact hv4
end
end Mh
set_option Elab.async false
set_option linter.all false
set_option maxRecDepth 100000
set_option maxHeartbeats 4000000
namespace Mh
open PySem L2 PyProof.Rows Mx
section
variable {hs : List Hm} {S cl : List Int}
theorem pl_at (hl : cl.length = (ownC hs).length) {h : Hm} {c : Int} (hh : h ∈ hs) (hc : c ∈ h.c) : ∃ j : Nat, (ownC hs).idxOf c = j ∧ j < cl.length ∧ cl[j]? = some (plF (ownC hs) cl c) ∧ (ownC hs)[j]? = some c := by
  have hi : (ownC hs).idxOf c < (ownC hs).length := List.idxOf_lt_length_iff.mpr (own_mem hh hc)
  refine ⟨_, rfl, by omega, ?_, by rw [List.getElem?_eq_getElem hi, List.getElem_idxOf]⟩
  unfold plF
  rw [List.getD_eq_getElem?_getD, List.getElem?_eq_getElem (by omega)]
  rfl
theorem pl_rg (hl : cl.length = (ownC hs).length) (hr : ∀ x ∈ cl, 0 ≤ x ∧ x < 64) : ∀ h ∈ hs, ∀ c ∈ h.c, 0 ≤ plF (ownC hs) cl c ∧ plF (ownC hs) cl c < 64 := fun h hh c hc => by
  obtain ⟨j, _, _, h1, _⟩ := pl_at hl hh hc
  exact hr _ (List.mem_of_getElem? h1)
theorem rise_ix (hp : cl.Pairwise (· < ·)) {i j : Nat} {x : Int} (h1 : cl[i]? = some x) (h2 : cl[j]? = some x) : i = j := by
  obtain ⟨a1, b1⟩ := List.getElem?_eq_some_iff.mp h1
  obtain ⟨a2, b2⟩ := List.getElem?_eq_some_iff.mp h2
  rcases Nat.lt_trichotomy i j with h | h | h
  · have := List.pairwise_iff_getElem.mp hp i j a1 a2 h; omega
  · exact h
  · have := List.pairwise_iff_getElem.mp hp j i a2 a1 h; omega
theorem pl_inj (hl : cl.length = (ownC hs).length) (hp : cl.Pairwise (· < ·)) : ∀ h ∈ hs, ∀ g ∈ hs, ∀ a ∈ h.c, ∀ b ∈ g.c, plF (ownC hs) cl a = plF (ownC hs) cl b → a = b := fun h hh g hg a ha b hb e => by
  obtain ⟨i, _, _, h1, h2⟩ := pl_at hl hh ha
  obtain ⟨j, _, _, h3, h4⟩ := pl_at hl hg hb
  rw [← e] at h3
  have := rise_ix hp h1 h3
  subst this
  rw [h2] at h4
  exact Option.some.inj h4
theorem all_rn (f : Int → Int) : ∀ hs : List Hm, allC (hs.map (rnH f)) = (allC hs).map f
  | [] => rfl
  | h :: hs => by
    have := all_rn f hs
    unfold allC at this ⊢
    rw [List.map_cons, List.flatMap_cons, List.flatMap_cons, List.map_append, this]
    rfl
theorem own_told (hl : cl.length = (ownC hs).length) (hp : cl.Pairwise (· < ·)) : ownC (hs.map (rnH (plF (ownC hs) cl))) = cl := by
  symm
  refine own_eq ?_ (hp.imp fun h => Int.le_of_lt h)
  refine (List.perm_ext_iff_of_nodup (hp.imp fun h => by omega) (uniq_nodup _)).mpr fun x => ?_
  rw [uniq_mem, all_rn]
  constructor
  · intro hx
    obtain ⟨j, hj⟩ := List.getElem?_of_mem hx
    have hjl := (List.getElem?_eq_some_iff.mp hj).1
    have hm : (ownC hs)[j]'(by omega) ∈ ownC hs := List.getElem_mem _
    have hm2 := (uniq_mem _ _).mp ((own_perm hs).mem_iff.mp hm)
    refine List.mem_map.mpr ⟨_, hm2, ?_⟩
    obtain ⟨h, hh, hc⟩ := List.mem_flatMap.mp hm2
    obtain ⟨i, _, _, h1, h2⟩ := pl_at hl hh hc
    have : i = j := by
      have hj2 : (ownC hs)[j]? = some ((ownC hs)[j]'(by omega)) := List.getElem?_eq_getElem _
      have nd := own_nd hs
      obtain ⟨a1, b1⟩ := List.getElem?_eq_some_iff.mp h2
      rcases Nat.lt_trichotomy i j with h | h | h
      · exact absurd b1 (List.pairwise_iff_getElem.mp nd i j a1 (by omega) h)
      · exact h
      · exact absurd b1.symm (List.pairwise_iff_getElem.mp nd j i (by omega) a1 h)
    subst this
    rw [hj] at h1
    exact (Option.some.inj h1).symm
  · intro hx
    obtain ⟨c, hc, rfl⟩ := List.mem_map.mp hx
    obtain ⟨h, hh, hc⟩ := List.mem_flatMap.mp hc
    obtain ⟨j, _, _, h1, _⟩ := pl_at hl hh hc
    exact List.mem_of_getElem? h1
theorem ix_cl (hl : cl.length = (ownC hs).length) (hp : cl.Pairwise (· < ·)) {h : Hm} {c : Int} (hh : h ∈ hs) (hc : c ∈ h.c) : cl.idxOf (plF (ownC hs) cl c) = (ownC hs).idxOf c := by
  obtain ⟨j, e, hj, h1, _⟩ := pl_at hl hh hc
  rw [e]
  have hm := List.mem_of_getElem? h1
  have h2 : cl[cl.idxOf (plF (ownC hs) cl c)]? = some (plF (ownC hs) cl c) := by rw [List.getElem?_eq_getElem (List.idxOf_lt_length_iff.mpr hm), List.getElem_idxOf]
  exact rise_ix hp h2 h1
theorem rn_id (h : Hm) : rnH (fun c => c) h = h := by
  unfold rnH
  simp
theorem back_told (hl : cl.length = (ownC hs).length) (hp : cl.Pairwise (· < ·)) : (hs.map (rnH (plF (ownC hs) cl))).map (rnH (plF cl (ownC hs))) = hs := by
  rw [List.map_map]
  have : ∀ h ∈ hs, ((rnH (plF cl (ownC hs))) ∘ (rnH (plF (ownC hs) cl))) h = id h := fun h hh => by
    show rnH _ (rnH _ h) = h
    rw [rn_rn]
    rw [show h = rnH (fun c => c) h from (rn_id h).symm]
    rw [rn_rn]
    refine rn_congr fun c hc => ?_
    show plF cl (ownC hs) (plF (ownC hs) cl c) = c
    have e := ix_cl hl hp hh hc
    obtain ⟨j, ej, _, _, h2⟩ := pl_at hl hh hc
    show (ownC hs).getD (cl.idxOf (plF (ownC hs) cl c)) 0 = c
    rw [e, ej, List.getD_eq_getElem?_getD, h2]
    rfl
  rw [List.map_congr_left this, List.map_id]
theorem little_told (hl : cl.length = (ownC hs).length) (hp : cl.Pairwise (· < ·)) : (hs.map (rnH (plF (ownC hs) cl))).map (rnH (ixF cl)) = hs.map (rnH (ixF (ownC hs))) := by
  rw [List.map_map]
  refine List.map_congr_left fun h hh => ?_
  show rnH _ (rnH _ h) = _
  rw [rn_rn]
  refine rn_congr fun c hc => ?_
  show ((cl.idxOf (plF (ownC hs) cl c) : Nat) : Int) = _
  rw [ix_cl hl hp hh hc]
  rfl
end
def hD (h : Hm) : PyData := .tuple ((hV h).map dOf)
theorem HsV.data {H : Hp} : ∀ {us : List V} {hs : List Hm}, HsV H us hs → Oks hs → AtAll H us (hs.map hD)
  | [], [], _, _ => .nil
  | [], _ :: _, x, _ => by have := x.len; simp at this
  | _ :: _, [], x, _ => by have := x.len; simp at this
  | u :: us, h :: hs, x, ok => by
    obtain ⟨a, rfl, ha⟩ := x.at_ 0 u h rfl rfl
    obtain ⟨ns, o⟩ := ok h (List.mem_cons_self ..)
    refine .cons (.tup ha (flats_at o.fl.1)) (HsV.data ⟨by have := x.len; simpa using this, fun i v g h1 h2 => x.at_ (i + 1) v g (by simpa using h1) (by simpa using h2)⟩ fun g hg => ok g (List.mem_cons_of_mem _ hg))
theorem hs_lay {hs : List Hm} (ok : Oks hs) : PyData.canLay0 (.list (hs.map hD)) = true := by
  show PyData.canLayAll0 _ = true
  induction hs with
  | nil => rfl
  | cons h hs ih =>
    obtain ⟨ns, o⟩ := ok h (List.mem_cons_self ..)
    show (PyData.canLay0 (hD h) && _) = true
    rw [ih fun g hg => ok g (List.mem_cons_of_mem _ hg), Bool.and_true]
    exact o.fl.2
theorem hs_depth {hs : List Hm} (ok : Oks hs) : (PyData.list (hs.map hD)).depth ≤ 10 := by
  have := depthAll_le (n := 3) (xs := hs.map hD) fun x hx => by
    obtain ⟨h, hh, rfl⟩ := List.mem_map.mp hx
    obtain ⟨ns, o⟩ := ok h hh
    have := flats_depth o.fl.1
    simp only [hD, PyData.depth]
    omega
  simp only [PyData.depth]
  omega
def intsD (cs : List Int) : PyData := .list (cs.map PyData.int)
theorem ints_all {H : Hp} : ∀ (cs : List Int), AtAll H (cs.map V.int) (cs.map PyData.int)
  | [] => .nil
  | c :: r => .cons (.int c) (ints_all r)
theorem ints_at {H : Hp} {p : Addr} {cs : List Int} (h : H p = some (.lst (cs.map V.int))) : At H (.ref p) (intsD cs) := .lst h (ints_all cs)
theorem ints_lay : ∀ (cs : List Int), PyData.canLayAll0 (cs.map PyData.int) = true
  | [] => rfl
  | c :: r => by show (true && _) = true; rw [ints_lay r]; rfl
theorem ints_lay0 (cs : List Int) : (intsD cs).canLay0 = true := ints_lay cs
theorem ints_depth (cs : List Int) : (intsD cs).depth ≤ 60 := by
  have := depthAll_le (n := 0) (xs := cs.map PyData.int) fun x hx => by
    obtain ⟨c, _, rfl⟩ := List.mem_map.mp hx
    simp [PyData.depth]
  simp only [intsD, PyData.depth]
  omega
theorem int_sm {x : Int} (h : 0 ≤ x ∧ x < 64) : Sm 0 0 (.int x) := by
  have : ∀ n : Nat, n < 64 → (PyData.int (n : Int)).showable = true ∧ PyData.leavesShort 40 (.int (n : Int)) = true := by decide +kernel
  have h1 := this x.toNat (by omega)
  rw [show ((x.toNat : Nat) : Int) = x by omega] at h1
  exact ⟨h1.1, by simp [PyData.depth], h1.2, by simp [PyData.bulk]⟩
theorem hd_sm {h : Hm} {ns : List Str} (ok : okH h ns) : Sm 1 100 (hD h) := by
  have hw : Sm 0 8 (.str h.w) := by
    rcases ten_words ok with (e | e | e | e | e) | e | (e | e) | e | e <;> rw [e] <;> exact ⟨by decide +kernel, by decide +kernel, by decide +kernel, by decide +kernel⟩
  have hr : ∀ {ns : List Str} {r : List V}, Rest ns r → ∀ x ∈ r.map dOf, Sm 0 8 x := fun {ns r} h => by
    induction h with
    | nil => intro x hx; cases hx
    | bit hb _ ih =>
      obtain ⟨b, rfl⟩ := hb
      intro x hx
      rcases List.mem_cons.mp hx with rfl | hx
      · cases b <;> exact ⟨by decide +kernel, by decide +kernel, by decide +kernel, by decide +kernel⟩
      · exact ih x hx
    | how hb _ ih =>
      intro x hx
      rcases List.mem_cons.mp hx with rfl | hx
      · rcases hb with rfl | rfl <;> exact ⟨by decide +kernel, by decide +kernel, by decide +kernel, by decide +kernel⟩
      · exact ih x hx
  unfold hD hV
  refine (Sm.tuple (n := 5) (D := 0) (B := 8) (fun x hx => ?_) ?_).mono
  · rw [List.map_cons] at hx
    rcases List.mem_cons.mp hx with rfl | hx
    · exact hw
    · rw [List.map_append] at hx
      rcases List.mem_append.mp hx with hx | hx
      · rw [List.map_map] at hx
        obtain ⟨c, hc, rfl⟩ := List.mem_map.mp hx
        exact (int_sm (ok.rg c hc)).mono
      · exact hr ok.rest x hx
  · have h1 := ok.cl
    have h2 := ok.rl
    have h3 := ok.rest.len
    simp
    omega
theorem hsd_sm {hs : List Hm} {S : List Int} (ok : okHs hs S) : Sm 2 400 (.list (hs.map hD)) :=
  (Sm.list (n := 3) (D := 1) (B := 100) (fun x hx => by
    obtain ⟨h, hh, rfl⟩ := List.mem_map.mp hx
    obtain ⟨ns, og⟩ := ok.ok h hh
    exact hd_sm og) (by rw [List.length_map]; exact ok.len)).mono
end Mh
set_option Elab.async false
set_option linter.all false
set_option maxRecDepth 100000
set_option maxHeartbeats 4000000
namespace Mh
open PySem L2 PyProof.Rows Mx
theorem okHs0 : okHs [] [] := ⟨by simp, (fun _ h => nomatch h), by simp, (fun _ h => nomatch h)⟩
theorem HsV0 {H : Hp} : HsV H [] [] := ⟨rfl, fun i v h a b => by simp at a⟩
theorem own0 : ownC [] = [] := by decide +kernel
section
variable {P : Program} {w : World} {K : PySem.W.Frag} {mg : Str → Option Value} {base : Heap}
def sp_law (K : PySem.W.Frag) : Sp := fun vs H Q _ => ∃ (a : Addr) (ns : List Int), vs = [.ref a] ∧ SqL K H a (ns.map V.int) ∧ ns.length ≤ 63 ∧ ∀ H', Q (.bl true) H'
abbrev s_law : Stmt := top 31
theorem sc_law : FnScope ["_law_script", "_law_k", "_law_cell", "_law_d", "_law_harms_here", "_law_kept", "_law_own", "_law_small", "_law_cells", "_law_told"] ["_law_script"] (defScope s_law) := ⟨rfl, rfl, rfl, by decide +kernel, rfl, by decide +kernel, by decide +kernel⟩
/- slots: 0 _law_script, 1 _law_k, 2 _law_cell, 3 _law_d, 4 _law_harms_here, 5 _law_kept, 6 _law_own, 7 _law_small, 8 _law_cells, 9 _law_told -/
theorem ok_law (B : Bl mg) (h__law_digits : Has P w K mg base 1 "_law_digits" ["_law_cell", "_law_turn", "_law_sizes"] sp_digits) (h__law_harms : Has P w K mg base 2 "_law_harms" ["_law_cell", "_law_turn", "_law_size", "_law_most"] sp_harms)
    (h__law_little : Has P w K mg base 1 "_law_little" ["_law_harms_here"] sp_llittle) (h__law_placed : Has P w K mg base 2 "_law_placed" ["_law_harms_here", "_law_cells"] sp_lplaced)
    (h_cells_of : Has P w K mg base 7 "cells_of" ["harms"] sp_cells_of) (h_placed : Has P w K mg base 8 "placed" ["harms", "cells"] sp_placed) (h_little : Has P w K mg base 9 "little" ["harms"] sp_little)
    {f : Addr} {fd : FuncData} (F : Fun K "law" "law" s_law f fd) : FnOk P w K mg base CX0 10 f fd ["_law_script"] (sp_law K) := by
  refine Mx.Fun.okQ F sc_law (fun vs H Q E h => ?_) (fun cdv A outer s H vs Q E hr h => ?_)
  · obtain ⟨a, ns, rfl, _⟩ := h
    rfl
  · obtain ⟨a, ns, rfl, hS, hnl, k⟩ := h
    have sc := sc_law
    refine ⟨_, (qss_litQ rfl (qss_cons (qs_for PassesOwn.never rfl (qi_of (pi_enum rfl (B.of rfl) (pa_cons (pe_slice sl_list (pe_op op_catS (pv 0) (pe_lst (pa_cons pe_int pa_nil))) po_none (po_some (pe_callB (call_max2 rfl) rfl (B.of rfl) boot_max (pa_cons pe_int (pa_cons (pe_callB (call_min2 rfl) rfl (B.of rfl) boot_min (pa_cons pe_int (pa_cons (pe_callB call_len_seq rfl (B.of rfl) boot_len (pa_cons (pv 0) pa_nil)) pa_nil))) pa_nil))))) pa_nil))) (pg_tup rfl (pgs_cons (pg_name (i := 1) sc.nd rfl (Or.inl rfl)) (pgs_cons (pg_name (i := 2) sc.nd rfl (Or.inl rfl)) pgs_nil)))
        (qss_cons (qs_setE (i := 3) sc.nd rfl (Or.inl rfl) (qe_callH h__law_digits hr (qa_nm (qe_of (pv 2)) (qa_cs (qe_of pe_int) (qa_ls (qe_lst (qa_cs (qe_of pe_int) (qa_cs (qe_of pe_int) (qa_cs (qe_of pe_int) (qa_cs (qe_of pe_int) qa_nil))))) qa_nil)))))
        (qss_cons (qs_setE (i := 4) sc.nd rfl (Or.inl rfl) (qe_callH h__law_harms hr (qa_nm (qe_of (pv 2)) (qa_bo (qe_op op_add (qe_of pe_int) (qe_of (pv 1))) (qa_bo (qe_op op_add (qe_of pe_int) (qe_ix ix_list (qe_of (pv 3)) (qe_of pe_int) (fun _ _ => rfl))) (qa_cs (qe_of pe_int) qa_nil))))))
        (qss_cons (qs_setE (i := 5) sc.nd rfl (Or.inl rfl) (qe_callB (call_reprXL hr) rfl (B.of rfl) boot_repr (qa_nm (qe_of (pv 4)) qa_nil)))
        (qss_cons (qs_asg (qe_callH h__law_little hr (qa_nm (qe_of (pv 4)) qa_nil)) (pg_tup rfl (pgs_cons (pg_name (i := 6) sc.nd rfl (Or.inl rfl)) (pgs_cons (pg_name (i := 7) sc.nd rfl (Or.inl rfl)) pgs_nil))))
        (qss_cons (qs_setE (i := 8) sc.nd rfl (Or.inl rfl) (qe_sl sl_list (qe_lst (qa_sb (qe_ix ix_list (qe_of (pv 3)) (qe_of pe_int) (fun _ _ => rfl)) (qa_bo (qe_op op_add (qe_op op_add (qe_ix ix_list (qe_of (pv 3)) (qe_of pe_int) (fun _ _ => rfl)) (qe_of pe_int)) (qe_ix ix_list (qe_of (pv 3)) (qe_of pe_int) (fun _ _ => rfl))) (qa_bo (qe_op op_add (qe_op op_add (qe_op op_add (qe_ix ix_list (qe_of (pv 3)) (qe_of pe_int) (fun _ _ => rfl)) (qe_ix ix_list (qe_of (pv 3)) (qe_of pe_int) (fun _ _ => rfl))) (qe_of pe_int)) (qe_ix ix_list (qe_of (pv 3)) (qe_of pe_int) (fun _ _ => rfl))) qa_nil)))) po_none (po_some (pe_callB call_len_seq rfl (B.of rfl) boot_len (pa_cons (pv 6) pa_nil)))))
        (qss_cons (qs_ifT (QW.pt (qw_or (qt_cmpR (op_neD hr) (qe_callH h_cells_of hr (qa_nm (qe_of (pv 4)) qa_nil)) (qe_of (pv 6)) (nomark _)) (qw_or (qt_cmpR (op_neD hr) (qe_callH h_little hr (qa_nm (qe_of (pv 4)) qa_nil)) (qe_of (pv 7)) (nomark _)) (qw_or1 (qt_cmpR (op_neD hr) (qe_callH h_placed hr (qa_nm (qe_of (pv 4)) (qa_nm (qe_of (pv 8)) qa_nil))) (qe_callH h__law_placed hr (qa_nm (qe_of (pv 4)) (qa_nm (qe_of (pv 8)) qa_nil))) (nomark _))))))
          (qss_one (qs_retE (qe_of pe_bl)))
          qss_nil)
        (qss_cons (qs_setE (i := 9) sc.nd rfl (Or.inl rfl) (qe_callH h_placed hr (qa_nm (qe_of (pv 4)) (qa_nm (qe_of (pv 8)) qa_nil))))
        (qss_cons (qs_ifT (QW.pt (qw_or (qt_cmpR (op_neD hr) (qe_callH h_placed hr (qa_nm (qe_of (pv 9)) (qa_nm (qe_of (pv 6)) qa_nil))) (qe_of (pv 4)) (nomark _)) (qw_or (qt_cmpR (op_neD hr) (qe_callH h_little hr (qa_nm (qe_of (pv 9)) qa_nil)) (qe_of (pv 7)) (nomark _)) (qw_or1 (qt_cmpR op_ne (qe_callB (call_reprXL hr) rfl (B.of rfl) boot_repr (qa_nm (qe_of (pv 4)) qa_nil)) (qe_of (pv 5)) (nomark _))))))
          (qss_one (qs_retE (qe_of pe_bl)))
          qss_nil)
        (qss_cons (qs_expr (qe_bm PySem.F.plainAttrs_list PySem.F.slot_list_append PySem.F.type_list_append mt_append (qe_of (pv 9)) (qa_cs (qe_of pe_non) qa_nil)))
        (qss_cons (qs_expr (qe_bm PySem.F.plainAttrs_list PySem.F.slot_list_append PySem.F.type_list_append mt_append (qe_callH h_cells_of hr (qa_nm (qe_of (pv 4)) qa_nil)) (qa_cs (qe_of pe_int) qa_nil)))
        (qss_cons (qs_expr (qe_of (pe_bm0 PySem.F.plainAttrs_list PySem.F.slot_list_clear PySem.F.type_list_clear mt_clear (pe_callH h_little hr (pa_cons (pv 4) pa_nil)))))
        (qss_one (qs_ifT (QW.pt (qw_or (qt_cmpR (op_neD hr) (qe_callH h_placed hr (qa_nm (qe_of (pv 4)) (qa_nm (qe_of (pv 8)) qa_nil))) (qe_callH h__law_placed hr (qa_nm (qe_of (pv 4)) (qa_nm (qe_of (pv 8)) qa_nil))) (nomark _)) (qw_or (qt_cmpR (op_neD hr) (qe_callH h_cells_of hr (qa_nm (qe_of (pv 4)) qa_nil)) (qe_of (pv 6)) (nomark _)) (qw_or1 (qt_cmpR (op_neD hr) (qe_callH h_little hr (qa_nm (qe_of (pv 4)) qa_nil)) (qe_of (pv 7)) (nomark _))))))
          (qss_one (qs_retE (qe_of pe_bl)))
          qss_nil))))))))))))))
      (qss_one (qs_retE (qe_of (pe_and (pe_cmpR (op_eqD hr) (pe_callH h_cells_of hr (pa_cons (pe_lst pa_nil) pa_nil)) (pe_lst pa_nil) (nomark _)) (pe_and (pe_cmpR (op_eqD hr) (pe_callH h_little hr (pa_cons (pe_lst pa_nil) pa_nil)) (pe_lst pa_nil) (nomark _)) (pe_one (pe_cmpR (op_eqD hr) (pe_callH h_placed hr (pa_cons (pe_lst pa_nil) (pa_cons (pe_lst pa_nil) pa_nil))) (pe_lst pa_nil) (nomark _)))))))))), ?_⟩
    have hsl : (sizeLine : Nat) = 16777216 := sizeLine_eq
    have z0 : 0 ≤ sizeLine := Nat.zero_le _
    have z1 : 1 ≤ sizeLine := by decide
    have z3 : 3 ≤ sizeLine := by decide
    have z4 : 4 ≤ sizeLine := by decide
    have ie : ∀ l : List Int, PyData.eqv (intsD l) (intsD l) = true := fun l => SeqAt.eqv_refl _ (ints_lay0 l)
    refine ⟨_, rfl, z1, fun c1 h1 => ?_⟩
    generalize hG1 : upd H c1 _ = H1
    have s1 : Same H H1 := by rw [← hG1]; exact (Same.refl H).upd h1
    have f1 : H1 c1 = some (.lst [.int 0]) := by rw [← hG1]; exact upd_same
    refine ⟨a, c1, _, _, rfl, rfl, s1.seq hS, SqL.of f1, by rw [List.length_map]; simp; omega, fun c3 h3 => ?_⟩
    generalize hG3 : upd H1 c3 _ = H3
    have s3 : Same H1 H3 := by rw [← hG3]; exact (Same.refl H1).upd h3
    have f3 : H3 c3 = some (.lst ((ns ++ [0]).map V.int)) := by rw [← hG3]; refine upd_same.trans ?_; rw [List.map_append]; rfl
    have s03 := s1.trans s3
    refine ⟨_, rfl, a, _, rfl, .inl (s03.seq hS), _, _, rfl, _, _, rfl, _, rfl, c3, _, rfl, SqL.of f3, fun c4 h4 => ?_⟩
    obtain ⟨cs, hcs, hc12⟩ : ∃ cs : List Int, cutV ((ns ++ [0]).map V.int) none (some (if (if ((ns.map V.int).length : Int) < 12 then ((ns.map V.int).length : Int) else 12) > 1 then (if ((ns.map V.int).length : Int) < 12 then ((ns.map V.int).length : Int) else 12) else 1)) = cs.map V.int ∧ cs.length ≤ 12 := by
      have ek : (if (if ((ns.map V.int).length : Int) < 12 then ((ns.map V.int).length : Int) else 12) > 1 then (if ((ns.map V.int).length : Int) < 12 then ((ns.map V.int).length : Int) else 12) else 1) = ((max 1 (min 12 ns.length) : Nat) : Int) := by
        rw [List.length_map]
        split <;> split at * <;> omega
      refine ⟨(ns ++ [0]).take (max 1 (min 12 ns.length)), by rw [ek, cut_take, List.map_take], ?_⟩
      rw [List.length_take, List.length_append, List.length_singleton]; omega
    generalize hG4 : upd H3 c4 _ = H4
    have s4 : Same H3 H4 := by rw [← hG4]; exact (Same.refl H3).upd h4
    have f4 : H4 c4 = some (.lst (cs.map V.int)) := by rw [← hG4, ← hcs]; exact upd_same
    clear hG4 hcs hG3 hG1
    refine ⟨c4, _, rfl, SqL.of f4, for_enum (xs := cs.map V.int) (fun i σ H' => ∃ (o1 o2 o3 o4 o5 o6 o7 o8 o9 : Option V), σ = [some (.ref a), o1, o2, o3, o4, o5, o6, o7, o8, o9] ∧ Same H4 H') ⟨_, _, _, _, _, _, _, _, _, rfl, Same.refl _⟩ (fun i σ H' _ ⟨_, _, _, _, _, _, _, _, _, _, s⟩ => SqL.of (s _ _ f4)) ?_ ?_⟩
    · rintro i x pp σ H5 hx ⟨o1, o2, o3, o4, o5, o6, o7, o8, o9, rfl, s5⟩ hpp
      obtain ⟨c, hc, rfl⟩ := int_get hx
      have hi12 : i < cs.length := (List.getElem?_eq_some_iff.mp hc).1
      refine ⟨pp, _, rfl, SqT.of upd_same, rfl, _, _, rfl, _, _, rfl, rfl, ?_⟩
      have s6 := s5.upd (o := .tup [V.int i, .int c]) hpp
      revert s6
      generalize upd H5 pp (.tup [V.int i, .int c]) = H6
      intro s6
      -- the digits
      refine ⟨_, rfl, z4, fun p1 v1 => ?_⟩
      generalize hK1 : upd H6 p1 _ = K1
      have t1 : Same H6 K1 := by rw [← hK1]; exact (Same.refl H6).upd v1
      have u1 : K1 p1 = some (.lst (([63, 20, 20, 20] : List Int).map V.int)) := by rw [← hK1]; exact upd_same
      refine ⟨c, 5, p1, [63, 20, 20, 20], rfl, u1, by decide, by decide, by omega, by omega, fun dp ds H7 s7 ndp hdp hDg => ?_⟩
      have s67 : Same H6 H7 := t1.trans s7
      obtain ⟨d0, g0, m0, n0⟩ := hDg.get (i := 0) (z := 63) rfl
      obtain ⟨d1, g1, m1, n1⟩ := hDg.get (i := 1) (z := 20) rfl
      obtain ⟨d2, g2, m2, n2⟩ := hDg.get (i := 2) (z := 20) rfl
      obtain ⟨d3, g3, m3, n3⟩ := hDg.get (i := 3) (z := 20) rfl
      obtain ⟨n, hn⟩ : ∃ n : Nat, 2 + d0 = (n : Int) := ⟨(2 + d0).toNat, by omega⟩
      refine ⟨_, rfl, _, rfl, _, _, rfl, rfl, _, rfl, dp, _, _, _, rfl, rfl, SqL.of hdp, atI_lit 0 (get_int g0), _, _, rfl, rfl, c, 1 + (i : Int), n, ?_, by omega, by omega, by omega, by omega, fun L us hs S H8 s8 nL hL hv ok hl ir => ?_⟩
      · show [V.int c, V.int (1 + (i : Int)), V.int (2 + d0), V.int 3] = _
        rw [hn]
      -- shown
      have hall : AllX H8 us (hs.map hD) := AtAll.allX (hv.data ok.ok)
      obtain ⟨r1, r2, r3⟩ := (hsd_sm ok).shown
      have hne : us ≠ [] := fun z => by have := hv.len; rw [z] at this; simp at this; omega
      refine ⟨_, rfl, L, us, _, rfl, hL, hne, hall, r1, r2, r3, ?_⟩
      refine ⟨_, rfl, L, us, hs, S, rfl, hL, hv, ok, fun r pA pS us1 H9 s9 er nA nS nAS eA eS hv1 => ?_⟩
      refine ⟨r, _, rfl, SqT.of er, rfl, _, _, rfl, _, _, rfl, rfl, ?_⟩
      have s89 : Same H7 H9 := s8.trans s9
      have hdp9 := s89 _ _ hdp
      refine ⟨_, rfl, dp, _, _, _, rfl, rfl, SqL.of hdp9, atI_lit 1 (get_int g1), ?_⟩
      refine ⟨_, rfl, dp, _, _, _, rfl, rfl, SqL.of hdp9, atI_lit 1 (get_int g1), _, _, rfl, rfl, _, rfl, dp, _, _, _, rfl, rfl, SqL.of hdp9, atI_lit 2 (get_int g2), _, _, rfl, rfl, ?_⟩
      refine ⟨_, rfl, dp, _, _, _, rfl, rfl, SqL.of hdp9, atI_lit 1 (get_int g1), _, rfl, dp, _, _, _, rfl, rfl, SqL.of hdp9, atI_lit 2 (get_int g2), _, _, rfl, rfl, _, _, rfl, rfl, _, rfl, dp, _, _, _, rfl, rfl, SqL.of hdp9, atI_lit 3 (get_int g3), _, _, rfl, rfl, z3, fun q hq => ?_⟩
      generalize hG10 : upd H9 q _ = K2
      have t2 : Same H9 K2 := by rw [← hG10]; exact (Same.refl H9).upd hq
      have u2 : K2 q = some (.lst (([d1, d1 + 1 + d2, d1 + d2 + 2 + d3] : List Int).map V.int)) := by rw [← hG10]; exact upd_same
      refine ⟨_, rfl, pA, _, rfl, .inl (SqL.of (t2 _ _ eA)), _, rfl, q, _, rfl, SqL.of u2, fun pc hpc => ?_⟩
      have o3' := own_few ok
      obtain ⟨cl, ecl, hcl, hcr, hcp⟩ : ∃ cl : List Int, cutV (([d1, d1 + 1 + d2, d1 + d2 + 2 + d3] : List Int).map V.int) none (some (((ownC hs).map V.int).length : Int)) = cl.map V.int ∧ cl.length = (ownC hs).length ∧ (∀ x ∈ cl, 0 ≤ x ∧ x < 64) ∧ cl.Pairwise (· < ·) := by
        refine ⟨([d1, d1 + 1 + d2, d1 + d2 + 2 + d3] : List Int).take (ownC hs).length, by rw [List.length_map, cut_take, List.map_take], by rw [List.length_take]; simp; omega, fun x hx => ?_, List.Pairwise.sublist (List.take_sublist _ _) ?_⟩
        · have := List.mem_of_mem_take hx
          simp at this
          rcases this with rfl | rfl | rfl <;> omega
        · simp
          omega
      generalize hG11 : upd K2 pc _ = K3
      have t3 : Same K2 K3 := by rw [← hG11]; exact (Same.refl K2).upd hpc
      have u3 : K3 pc = some (.lst (cl.map V.int)) := by rw [← hG11, ← ecl]; exact upd_same
      clear hG11 ecl hG10
      have npc : pc ≠ L := fun z => by subst z; have := (s9.trans t2) _ _ hL; rw [hpc] at this; cases this
      have t23 := t2.trans t3
      have s93 := s9.trans t23
      have hL3 := s93 _ _ hL
      have hv3 := hv.same s93
      have eA3 := t23 _ _ eA
      have eS3 := t23 _ _ eS
      have hvS3 := hv1.same t23
      have okS := ok.rn (ix_rg ok) ix_inj
      have okT := ok.rn (pl_rg hcl hcr) (fun h hh a ha b hb e => pl_inj hcl hcp h hh h hh a ha b hb e)
      have z83 : Same H4 K3 := (s6.trans s67).trans (s8.trans s93)
      generalize hT : hs.map (rnH (plF (ownC hs) cl)) = hsT at okT
      generalize hSm : hs.map (rnH (ixF (ownC hs))) = hsS at okS hvS3 hv1
      have lT := hs_lay okT.ok
      have lS := hs_lay okS.ok
      have lH := hs_lay ok.ok
      have dT : (PyData.list (hsT.map hD)).depth ≤ 60 := Nat.le_trans (hs_depth okT.ok) (by decide)
      have dS' : (PyData.list (hsS.map hD)).depth ≤ 60 := Nat.le_trans (hs_depth okS.ok) (by decide)
      have dH : (PyData.list (hs.map hD)).depth ≤ 60 := Nat.le_trans (hs_depth ok.ok) (by decide)
      -- the first asking
      refine ⟨_, rfl, L, us, hs, S, rfl, hL3, hv3, ok, fun D1 ns1 J1 w1 nD1 eD1 hp1 hp2 => ?_⟩
      have := own_eq hp1 hp2
      subst this
      refine ⟨_, rfl, _, _, ints_at eD1, ints_at (w1 _ _ eA3), ints_lay0 _, ints_lay0 _, ints_depth _, _, rfl, iteN (by rw [ie]; rfl) ?_⟩
      refine ⟨_, rfl, L, us, hs, S, rfl, w1 _ _ hL3, hv3.same w1, ok, fun D2 us2 J2 w2 nD2 eD2 hv2 => ?_⟩
      rw [hSm] at hv2
      have w12 := w1.trans w2
      refine ⟨_, rfl, _, _, .lst eD2 (hv2.data okS.ok), .lst (w12 _ _ eS3) ((hvS3.same w12).data okS.ok), lS, lS, dS', _, rfl, iteN (by rw [SeqAt.eqv_refl _ lS]; rfl) ?_⟩
      refine ⟨_, rfl, _, rfl, L, us, hs, S, pc, cl, rfl, w12 _ _ hL3, hv3.same w12, ok, w12 _ _ u3, by omega, by omega, fun D3 us3 J3 w3 nD3 eD3 hv4 => ?_⟩
      rw [hT] at hv4
      have w13 := w12.trans w3
      refine ⟨_, rfl, _, rfl, L, us, hs, S, pc, cl, rfl, w13 _ _ hL3, hv3.same w13, ok, w13 _ _ u3, by omega, fun D4 us4 J4 w4 nD4 eD4 hv5 => ?_⟩
      rw [hT] at hv5
      have w14 := w13.trans w4
      refine ⟨_, _, .lst (w4 _ _ eD3) ((hv4.same w4).data okT.ok), .lst eD4 (hv5.data okT.ok), lT, lT, dT, _, rfl, iteN (by rw [SeqAt.eqv_refl _ lT]; rfl) ?_⟩
      -- told
      refine ⟨_, rfl, _, rfl, L, us, hs, S, pc, cl, rfl, w14 _ _ hL3, hv3.same w14, ok, w14 _ _ u3, by omega, by omega, fun D5 us5 J5 w5 nD5 eD5 hv6 => ?_⟩
      rw [hT] at hv6
      have w15 := w14.trans w5
      have eOT : ownC hsT = cl := by rw [← hT]; exact own_told hcl hcp
      have eBT : hsT.map (rnH (plF cl (ownC hs))) = hs := by rw [← hT]; exact back_told hcl hcp
      have eLT : hsT.map (rnH (ixF cl)) = hsS := by rw [← hT, ← hSm]; exact little_told hcl hcp
      refine ⟨_, rfl, _, rfl, D5, us5, hsT, _, pA, ownC hs, rfl, eD5, hv6, okT, w15 _ _ eA3, by rw [eOT]; omega, by omega, fun D6 us6 J6 w6 nD6 eD6 hv7 => ?_⟩
      rw [eOT, eBT] at hv7
      have w16 := w15.trans w6
      refine ⟨_, rfl, _, _, .lst eD6 (hv7.data ok.ok), .lst (w16 _ _ hL3) ((hv3.same w16).data ok.ok), lH, lH, dH, _, rfl, iteN (by rw [SeqAt.eqv_refl _ lH]; rfl) ?_⟩
      refine ⟨_, rfl, D5, us5, hsT, _, rfl, w6 _ _ eD5, hv6.same w6, okT, fun D7 us7 J7 w7 nD7 eD7 hv8 => ?_⟩
      rw [eOT, eLT] at hv8
      have w17 := w16.trans w7
      refine ⟨_, rfl, _, _, .lst eD7 (hv8.data okS.ok), .lst (w17 _ _ eS3) ((hvS3.same w17).data okS.ok), lS, lS, dS', _, rfl, iteN (by rw [SeqAt.eqv_refl _ lS]; rfl) ?_⟩
      refine ⟨_, rfl, L, us, _, rfl, w17 _ _ hL3, hne, (AtAll.allX ((hv3.same w17).data ok.ok)), r1, r2, r3, ?_⟩
      refine ⟨_, rfl, rfl, _, rfl, iteN (by simp) ?_⟩
      -- what is told is changed
      have nD5' : ∀ {b : Addr} {u : HO}, K3 b = some u → b ≠ D5 := fun {b u} e z => by subst z; have := w14 _ _ e; rw [nD5] at this; cases this
      have e57 : J7 D5 = some (.lst us5) := (w6.trans w7) _ _ eD5
      refine ⟨_, rfl, .inl ⟨rfl, _, SqL.of e57⟩, ?_⟩
      refine ⟨D5, us5, _, rfl, rfl, e57, sl_lt (by have := hv6.len; have := okT.len; omega), ?_⟩
      have w8 : Same K3 (upd J7 D5 (.lst (us5 ++ [.non]))) := w17.at (w14.free nD5)
      revert w8
      generalize upd J7 D5 (.lst (us5 ++ [.non])) = J8
      intro w8
      refine ⟨_, rfl, L, us, hs, S, rfl, w8 _ _ hL3, hv3.same w8, ok, fun D9 ns9 J9 w9 nD9 eD9 hp3 hp4 => ?_⟩
      refine ⟨.inl ⟨rfl, _, SqL.of eD9⟩, ?_⟩
      have := own_eq hp3 hp4
      subst this
      refine ⟨D9, _, _, rfl, rfl, eD9, sl_lt (by rw [List.length_map]; omega), ?_⟩
      have w10 : Same K3 (upd J9 D9 (.lst ((ownC hs).map V.int ++ [.int 1]))) := (w8.trans w9).at (w8.free nD9)
      revert w10
      generalize upd J9 D9 (.lst ((ownC hs).map V.int ++ [.int 1])) = J10
      intro w10
      refine ⟨_, rfl, L, us, hs, S, rfl, w10 _ _ hL3, hv3.same w10, ok, fun D11 us11 J11 w11 nD11 eD11 hv11 => ?_⟩
      refine ⟨.inl ⟨rfl, _, SqL.of eD11⟩, D11, _, rfl, rfl, eD11, ?_⟩
      have w12' : Same K3 (upd J11 D11 (.lst [])) := (w10.trans w11).at (w10.free nD11)
      revert w12'
      generalize upd J11 D11 (.lst []) = J12
      intro v1
      -- asked again
      refine ⟨_, rfl, _, rfl, L, us, hs, S, pc, cl, rfl, v1 _ _ hL3, hv3.same v1, ok, v1 _ _ u3, by omega, by omega, fun E3 vs3 I3 x3 nE3 eE3 hx4 => ?_⟩
      rw [hT] at hx4
      have v3 := v1.trans x3
      refine ⟨_, rfl, _, rfl, L, us, hs, S, pc, cl, rfl, v3 _ _ hL3, hv3.same v3, ok, v3 _ _ u3, by omega, fun E4 vs4 I4 x4 nE4 eE4 hx5 => ?_⟩
      rw [hT] at hx5
      have v4 := v3.trans x4
      refine ⟨_, _, .lst (x4 _ _ eE3) ((hx4.same x4).data okT.ok), .lst eE4 (hx5.data okT.ok), lT, lT, dT, _, rfl, iteN (by rw [SeqAt.eqv_refl _ lT]; rfl) ?_⟩
      refine ⟨_, rfl, L, us, hs, S, rfl, v4 _ _ hL3, hv3.same v4, ok, fun E5 ns5 I5 x5 nE5 eE5 hp5 hp6 => ?_⟩
      have := own_eq hp5 hp6
      subst this
      have v5 := v4.trans x5
      refine ⟨_, rfl, _, _, ints_at eE5, ints_at (v5 _ _ eA3), ints_lay0 _, ints_lay0 _, ints_depth _, _, rfl, iteN (by rw [ie]; rfl) ?_⟩
      refine ⟨_, rfl, L, us, hs, S, rfl, v5 _ _ hL3, hv3.same v5, ok, fun E6 us6' I6 x6 nE6 eE6 hx6 => ?_⟩
      rw [hSm] at hx6
      have v6 := v5.trans x6
      refine ⟨_, rfl, _, _, .lst eE6 (hx6.data okS.ok), .lst (v6 _ _ eS3) ((hvS3.same v6).data okS.ok), lS, lS, dS', _, rfl, iteN (by rw [SeqAt.eqv_refl _ lS]; rfl) ?_⟩
      exact ⟨_, _, _, _, _, _, _, _, _, rfl, z83.trans v6⟩
    · rintro σ H5 ⟨o1, o2, o3, o4, o5, o6, o7, o8, o9, rfl, s5⟩
      have n0 : PyData.eqv (.list []) (.list []) = true := by decide +kernel
      have l0 : (PyData.list []).canLay0 = true := by decide +kernel
      have d0 : (PyData.list []).depth ≤ 60 := by decide +kernel
      refine ⟨z0, fun p1 q1 => ⟨p1, [], [], [], rfl, upd_same, HsV0, okHs0, fun D ns' J w nD eD hp hq => ?_⟩⟩
      have := own_eq hp hq
      rw [own0] at this
      subst this
      refine ⟨z0, fun p2 q2 => ?_⟩
      have w2 := (Same.refl J).upd (o := .lst []) q2
      refine ⟨_, _, .lst (w2 _ _ eD) .nil, .lst upd_same .nil, l0, l0, d0, _, rfl, iteB n0 ?_⟩
      clear w2 eD nD w
      generalize upd J p2 (.lst []) = J2
      refine ⟨z0, fun p3 q3 => ⟨p3, [], [], [], rfl, upd_same, HsV0, okHs0, fun D us' J3 w nD eD hv => ?_⟩⟩
      have : us' = [] := List.length_eq_zero_iff.mp (by have := hv.len; simpa using this)
      subst this
      refine ⟨z0, fun p4 q4 => ?_⟩
      have w2 := (Same.refl J3).upd (o := .lst []) q4
      refine ⟨_, _, .lst (w2 _ _ eD) .nil, .lst upd_same .nil, l0, l0, d0, _, rfl, iteB n0 ?_⟩
      clear w2 eD nD w hv
      generalize upd J3 p4 (.lst []) = J4
      refine ⟨z0, fun p5 q5 => ⟨z0, fun p6 q6 => ?_⟩⟩
      have w6 := (Same.refl _).upd (o := .lst []) q6
      refine ⟨p5, [], [], [], p6, [], rfl, w6 _ _ upd_same, HsV0, okHs0, upd_same, by rw [own0]; exact Nat.le_refl _, by simp, fun D us' J5 w nD eD hv => ?_⟩
      have : us' = [] := List.length_eq_zero_iff.mp (by have := hv.len; simpa using this)
      subst this
      refine ⟨z0, fun p7 q7 => ?_⟩
      have w2 := (Same.refl J5).upd (o := .lst []) q7
      refine ⟨_, _, .lst (w2 _ _ eD) .nil, .lst upd_same .nil, l0, l0, d0, ?_⟩
      rw [n0]
      exact k _
end
end Mh
set_option Elab.async false
set_option linter.all false
set_option maxRecDepth 100000
namespace Mh
open PySem L2 PyProof.Rows
open Mx
theorem sqT_mk {K : PySem.W.Frag} {a : Addr} {xs : List V} {od : Option Addr} {its : Array Value} {n : Nat} {sl : Array (Option Value)} (h2 : K.lookup a = some ⟨.type "tuple", od, .seq its n, sl⟩) (z : its.size ≤ sizeLine) (r : Vals xs its.toList) : ∀ H, SqT K H a xs :=
  fun H => .inr ⟨_, its, n, h2, rfl, rfl, z, r⟩
theorem fnAt_mk {K : PySem.W.Frag} {h : Heap} {mg : Str → Option Value} {x : Str} {st : Stmt} {ps : List Str} {f : Addr} {oc : Value} {od an : Option Addr} {osl : Array (Option Value)} {kV doc pm cdv ct : Value} (X : K.In h) (G : h.Ns mainGlobals mg)
    (a : PySem.W.nsIn K mainGlobals x = some (some (.ref f))) (l : K.lookup f = some ⟨oc, od, .func (PySem.W.fnOf x x (defArgs st) (defBody st) (defScope st) .none kV doc pm an cdv ct), osl⟩) (c : PySem.W.codeIn K cdv x = true) (k : PySem.W.keepIn K (.ref f) = true)
    (hb : ∀ (kV doc pm : Value) (an : Option Addr) (cdv ct : Value) (us : List Value), us.length = ps.length → bindArgs (PySem.W.fnOf x x (defArgs st) (defBody st) (defScope st) .none kV doc pm an cdv ct) ⟨us, []⟩ = pure (ps.zip us)) : FnAt K mg x st ps := by
  have F := fun_mk (st := st) l c k
  exact ⟨f, _, PySem.W.mg_of X G a, F, F.binds hb⟩
set_option maxHeartbeats 0 in
theorem all_mk {l : PySem.W.OpenLaw} {w : World} {K : PySem.W.Frag} {h : Heap} {mg : Str → Option Value} {fa : Addr} (X : K.In h) (G : h.Ns mainGlobals mg) (hfa : mg "law" = some (.ref fa))
    {f0 : Addr} {od0 an0 : Option Addr} {sl0 : Array (Option Value)} {oc0 kV0 dc0 pm0 cd0 ct0 : Value}
    (a0 : PySem.W.nsIn K mainGlobals "is_whole" = some (some (.ref f0)))
    (l0 : K.lookup f0 = some ⟨oc0, od0, .func (PySem.W.fnOf "is_whole" "is_whole" (defArgs s_is_whole) (defBody s_is_whole) (defScope s_is_whole) .none kV0 dc0 pm0 an0 cd0 ct0), sl0⟩)
    (c0 : PySem.W.codeIn K cd0 "is_whole" = true)
    (k0 : PySem.W.keepIn K (.ref f0) = true)
    {f1 : Addr} {od1 an1 : Option Addr} {sl1 : Array (Option Value)} {oc1 kV1 dc1 pm1 cd1 ct1 : Value}
    (a1 : PySem.W.nsIn K mainGlobals "is_bit" = some (some (.ref f1)))
    (l1 : K.lookup f1 = some ⟨oc1, od1, .func (PySem.W.fnOf "is_bit" "is_bit" (defArgs s_is_bit) (defBody s_is_bit) (defScope s_is_bit) .none kV1 dc1 pm1 an1 cd1 ct1), sl1⟩)
    (c1 : PySem.W.codeIn K cd1 "is_bit" = true)
    (k1 : PySem.W.keepIn K (.ref f1) = true)
    {f2 : Addr} {od2 an2 : Option Addr} {sl2 : Array (Option Value)} {oc2 kV2 dc2 pm2 cd2 ct2 : Value}
    (a2 : PySem.W.nsIn K mainGlobals "is_one_of" = some (some (.ref f2)))
    (l2 : K.lookup f2 = some ⟨oc2, od2, .func (PySem.W.fnOf "is_one_of" "is_one_of" (defArgs s_is_one_of) (defBody s_is_one_of) (defScope s_is_one_of) .none kV2 dc2 pm2 an2 cd2 ct2), sl2⟩)
    (c2 : PySem.W.codeIn K cd2 "is_one_of" = true)
    (k2 : PySem.W.keepIn K (.ref f2) = true)
    {f3 : Addr} {od3 an3 : Option Addr} {sl3 : Array (Option Value)} {oc3 kV3 dc3 pm3 cd3 ct3 : Value}
    (a3 : PySem.W.nsIn K mainGlobals "is_cell" = some (some (.ref f3)))
    (l3 : K.lookup f3 = some ⟨oc3, od3, .func (PySem.W.fnOf "is_cell" "is_cell" (defArgs s_is_cell) (defBody s_is_cell) (defScope s_is_cell) .none kV3 dc3 pm3 an3 cd3 ct3), sl3⟩)
    (c3 : PySem.W.codeIn K cd3 "is_cell" = true)
    (k3 : PySem.W.keepIn K (.ref f3) = true)
    {f4 : Addr} {od4 an4 : Option Addr} {sl4 : Array (Option Value)} {oc4 kV4 dc4 pm4 cd4 ct4 : Value}
    (a4 : PySem.W.nsIn K mainGlobals "is_part" = some (some (.ref f4)))
    (l4 : K.lookup f4 = some ⟨oc4, od4, .func (PySem.W.fnOf "is_part" "is_part" (defArgs s_is_part) (defBody s_is_part) (defScope s_is_part) .none kV4 dc4 pm4 an4 cd4 ct4), sl4⟩)
    (c4 : PySem.W.codeIn K cd4 "is_part" = true)
    (k4 : PySem.W.keepIn K (.ref f4) = true)
    {f5 : Addr} {od5 an5 : Option Addr} {sl5 : Array (Option Value)} {oc5 kV5 dc5 pm5 cd5 ct5 : Value}
    (a5 : PySem.W.nsIn K mainGlobals "has_word" = some (some (.ref f5)))
    (l5 : K.lookup f5 = some ⟨oc5, od5, .func (PySem.W.fnOf "has_word" "has_word" (defArgs s_has_word) (defBody s_has_word) (defScope s_has_word) .none kV5 dc5 pm5 an5 cd5 ct5), sl5⟩)
    (c5 : PySem.W.codeIn K cd5 "has_word" = true)
    (k5 : PySem.W.keepIn K (.ref f5) = true)
    {f6 : Addr} {od6 an6 : Option Addr} {sl6 : Array (Option Value)} {oc6 kV6 dc6 pm6 cd6 ct6 : Value}
    (a6 : PySem.W.nsIn K mainGlobals "cells_in" = some (some (.ref f6)))
    (l6 : K.lookup f6 = some ⟨oc6, od6, .func (PySem.W.fnOf "cells_in" "cells_in" (defArgs s_cells_in) (defBody s_cells_in) (defScope s_cells_in) .none kV6 dc6 pm6 an6 cd6 ct6), sl6⟩)
    (c6 : PySem.W.codeIn K cd6 "cells_in" = true)
    (k6 : PySem.W.keepIn K (.ref f6) = true)
    {f7 : Addr} {od7 an7 : Option Addr} {sl7 : Array (Option Value)} {oc7 kV7 dc7 pm7 cd7 ct7 : Value}
    (a7 : PySem.W.nsIn K mainGlobals "has_parts" = some (some (.ref f7)))
    (l7 : K.lookup f7 = some ⟨oc7, od7, .func (PySem.W.fnOf "has_parts" "has_parts" (defArgs s_has_parts) (defBody s_has_parts) (defScope s_has_parts) .none kV7 dc7 pm7 an7 cd7 ct7), sl7⟩)
    (c7 : PySem.W.codeIn K cd7 "has_parts" = true)
    (k7 : PySem.W.keepIn K (.ref f7) = true)
    {f8 : Addr} {od8 an8 : Option Addr} {sl8 : Array (Option Value)} {oc8 kV8 dc8 pm8 cd8 ct8 : Value}
    (a8 : PySem.W.nsIn K mainGlobals "is_harm" = some (some (.ref f8)))
    (l8 : K.lookup f8 = some ⟨oc8, od8, .func (PySem.W.fnOf "is_harm" "is_harm" (defArgs s_is_harm) (defBody s_is_harm) (defScope s_is_harm) .none kV8 dc8 pm8 an8 cd8 ct8), sl8⟩)
    (c8 : PySem.W.codeIn K cd8 "is_harm" = true)
    (k8 : PySem.W.keepIn K (.ref f8) = true)
    {f9 : Addr} {od9 an9 : Option Addr} {sl9 : Array (Option Value)} {oc9 kV9 dc9 pm9 cd9 ct9 : Value}
    (a9 : PySem.W.nsIn K mainGlobals "look_at_harms" = some (some (.ref f9)))
    (l9 : K.lookup f9 = some ⟨oc9, od9, .func (PySem.W.fnOf "look_at_harms" "look_at_harms" (defArgs s_look_at_harms) (defBody s_look_at_harms) (defScope s_look_at_harms) .none kV9 dc9 pm9 an9 cd9 ct9), sl9⟩)
    (c9 : PySem.W.codeIn K cd9 "look_at_harms" = true)
    (k9 : PySem.W.keepIn K (.ref f9) = true)
    {f10 : Addr} {od10 an10 : Option Addr} {sl10 : Array (Option Value)} {oc10 kV10 dc10 pm10 cd10 ct10 : Value}
    (a10 : PySem.W.nsIn K mainGlobals "cells_of" = some (some (.ref f10)))
    (l10 : K.lookup f10 = some ⟨oc10, od10, .func (PySem.W.fnOf "cells_of" "cells_of" (defArgs s_cells_of) (defBody s_cells_of) (defScope s_cells_of) .none kV10 dc10 pm10 an10 cd10 ct10), sl10⟩)
    (c10 : PySem.W.codeIn K cd10 "cells_of" = true)
    (k10 : PySem.W.keepIn K (.ref f10) = true)
    {f11 : Addr} {od11 an11 : Option Addr} {sl11 : Array (Option Value)} {oc11 kV11 dc11 pm11 cd11 ct11 : Value}
    (a11 : PySem.W.nsIn K mainGlobals "renamed" = some (some (.ref f11)))
    (l11 : K.lookup f11 = some ⟨oc11, od11, .func (PySem.W.fnOf "renamed" "renamed" (defArgs s_renamed) (defBody s_renamed) (defScope s_renamed) .none kV11 dc11 pm11 an11 cd11 ct11), sl11⟩)
    (c11 : PySem.W.codeIn K cd11 "renamed" = true)
    (k11 : PySem.W.keepIn K (.ref f11) = true)
    {f12 : Addr} {od12 an12 : Option Addr} {sl12 : Array (Option Value)} {oc12 kV12 dc12 pm12 cd12 ct12 : Value}
    (a12 : PySem.W.nsIn K mainGlobals "placed" = some (some (.ref f12)))
    (l12 : K.lookup f12 = some ⟨oc12, od12, .func (PySem.W.fnOf "placed" "placed" (defArgs s_placed) (defBody s_placed) (defScope s_placed) .none kV12 dc12 pm12 an12 cd12 ct12), sl12⟩)
    (c12 : PySem.W.codeIn K cd12 "placed" = true)
    (k12 : PySem.W.keepIn K (.ref f12) = true)
    {f13 : Addr} {od13 an13 : Option Addr} {sl13 : Array (Option Value)} {oc13 kV13 dc13 pm13 cd13 ct13 : Value}
    (a13 : PySem.W.nsIn K mainGlobals "little" = some (some (.ref f13)))
    (l13 : K.lookup f13 = some ⟨oc13, od13, .func (PySem.W.fnOf "little" "little" (defArgs s_little) (defBody s_little) (defScope s_little) .none kV13 dc13 pm13 an13 cd13 ct13), sl13⟩)
    (c13 : PySem.W.codeIn K cd13 "little" = true)
    (k13 : PySem.W.keepIn K (.ref f13) = true)
    {f14 : Addr} {od14 an14 : Option Addr} {sl14 : Array (Option Value)} {oc14 kV14 dc14 pm14 cd14 ct14 : Value}
    (a14 : PySem.W.nsIn K mainGlobals "_law_digits" = some (some (.ref f14)))
    (l14 : K.lookup f14 = some ⟨oc14, od14, .func (PySem.W.fnOf "_law_digits" "_law_digits" (defArgs s__law_digits) (defBody s__law_digits) (defScope s__law_digits) .none kV14 dc14 pm14 an14 cd14 ct14), sl14⟩)
    (c14 : PySem.W.codeIn K cd14 "_law_digits" = true)
    (k14 : PySem.W.keepIn K (.ref f14) = true)
    {f15 : Addr} {od15 an15 : Option Addr} {sl15 : Array (Option Value)} {oc15 kV15 dc15 pm15 cd15 ct15 : Value}
    (a15 : PySem.W.nsIn K mainGlobals "_law_harm" = some (some (.ref f15)))
    (l15 : K.lookup f15 = some ⟨oc15, od15, .func (PySem.W.fnOf "_law_harm" "_law_harm" (defArgs s__law_harm) (defBody s__law_harm) (defScope s__law_harm) .none kV15 dc15 pm15 an15 cd15 ct15), sl15⟩)
    (c15 : PySem.W.codeIn K cd15 "_law_harm" = true)
    (k15 : PySem.W.keepIn K (.ref f15) = true)
    {f16 : Addr} {od16 an16 : Option Addr} {sl16 : Array (Option Value)} {oc16 kV16 dc16 pm16 cd16 ct16 : Value}
    (a16 : PySem.W.nsIn K mainGlobals "_law_harms" = some (some (.ref f16)))
    (l16 : K.lookup f16 = some ⟨oc16, od16, .func (PySem.W.fnOf "_law_harms" "_law_harms" (defArgs s__law_harms) (defBody s__law_harms) (defScope s__law_harms) .none kV16 dc16 pm16 an16 cd16 ct16), sl16⟩)
    (c16 : PySem.W.codeIn K cd16 "_law_harms" = true)
    (k16 : PySem.W.keepIn K (.ref f16) = true)
    {f17 : Addr} {od17 an17 : Option Addr} {sl17 : Array (Option Value)} {oc17 kV17 dc17 pm17 cd17 ct17 : Value}
    (a17 : PySem.W.nsIn K mainGlobals "_law_little" = some (some (.ref f17)))
    (l17 : K.lookup f17 = some ⟨oc17, od17, .func (PySem.W.fnOf "_law_little" "_law_little" (defArgs s__law_little) (defBody s__law_little) (defScope s__law_little) .none kV17 dc17 pm17 an17 cd17 ct17), sl17⟩)
    (c17 : PySem.W.codeIn K cd17 "_law_little" = true)
    (k17 : PySem.W.keepIn K (.ref f17) = true)
    {f18 : Addr} {od18 an18 : Option Addr} {sl18 : Array (Option Value)} {oc18 kV18 dc18 pm18 cd18 ct18 : Value}
    (a18 : PySem.W.nsIn K mainGlobals "_law_placed" = some (some (.ref f18)))
    (l18 : K.lookup f18 = some ⟨oc18, od18, .func (PySem.W.fnOf "_law_placed" "_law_placed" (defArgs s__law_placed) (defBody s__law_placed) (defScope s__law_placed) .none kV18 dc18 pm18 an18 cd18 ct18), sl18⟩)
    (c18 : PySem.W.codeIn K cd18 "_law_placed" = true)
    (k18 : PySem.W.keepIn K (.ref f18) = true)
    {f19 : Addr} {od19 an19 : Option Addr} {sl19 : Array (Option Value)} {oc19 kV19 dc19 pm19 cd19 ct19 : Value}
    (a19 : PySem.W.nsIn K mainGlobals "law" = some (some (.ref f19)))
    (l19 : K.lookup f19 = some ⟨oc19, od19, .func (PySem.W.fnOf "law" "law" (defArgs s_law) (defBody s_law) (defScope s_law) .none kV19 dc19 pm19 an19 cd19 ct19), sl19⟩)
    (c19 : PySem.W.codeIn K cd19 "law" = true)
    (k19 : PySem.W.keepIn K (.ref f19) = true)
    (z0 : PySem.W.nsIn K mainGlobals "len" = some none)
    (z1 : PySem.W.nsIn K mainGlobals "abs" = some none)
    (z2 : PySem.W.nsIn K mainGlobals "max" = some none)
    (z3 : PySem.W.nsIn K mainGlobals "min" = some none)
    (z4 : PySem.W.nsIn K mainGlobals "repr" = some none)
    (z5 : PySem.W.nsIn K mainGlobals "isinstance" = some none)
    (z6 : PySem.W.nsIn K mainGlobals "int" = some none)
    (z7 : PySem.W.nsIn K mainGlobals "bool" = some none)
    (z8 : PySem.W.nsIn K mainGlobals "str" = some none)
    (z9 : PySem.W.nsIn K mainGlobals "tuple" = some none)
    (z10 : PySem.W.nsIn K mainGlobals "list" = some none)
    (z11 : PySem.W.nsIn K mainGlobals "dict" = some none)
    (z12 : PySem.W.nsIn K mainGlobals "range" = some none)
    (z13 : PySem.W.nsIn K mainGlobals "enumerate" = some none)
    (z14 : PySem.W.nsIn K mainGlobals "sorted" = some none)
    (z15 : PySem.W.nsIn K mainGlobals "sum" = some none)
    (zset : PySem.W.nsIn K mainGlobals "set" = some none)
    (zzip : PySem.W.nsIn K mainGlobals "zip" = some none)
    (zall : PySem.W.nsIn K mainGlobals "all" = some none)
    {w1 w2 w3 : Tok}
    (aMC : PySem.W.nsIn K mainGlobals "MOST_CELLS" = some (some (.int 64 w1)))
    (aMH : PySem.W.nsIn K mainGlobals "MOST_HARMS" = some (some (.int 3 w2)))
    (aMU : PySem.W.nsIn K mainGlobals "MOST_UNLIKE" = some (some (.int 3 w3)))
    {tJ : Addr} {uj1 uj2 : Tok} {odJ : Option Addr} {nJ : Nat} {slJ : Array (Option Value)}
    (aJ : PySem.W.nsIn K mainGlobals "JOININGS" = some (some (.ref tJ)))
    (lJ : K.lookup tJ = some ⟨.type "tuple", odJ, .seq #[.str "and" uj1, .str "or" uj2] nJ, slJ⟩)
    {tP qp0 qp1 qp2 qp3 qp4 qp5 qp6 qp7 qp8 qp9 : Addr} {xp0 xp1 xp2 xp3 xp4 xp5 xp6 xp7 xp8 xp9 : Int} {kp0 kp1 kp2 kp3 kp4 kp5 kp6 kp7 kp8 kp9 : Tok} {epP : Nat}
    (aP : PySem.W.nsIn K mainGlobals "PARTS" = some (some (.ref tP)))
    (lP : K.lookup tP = some ⟨.type "dict", none, .dict #[⟨xp0, .str "stuck" kp0, .ref qp0⟩, ⟨xp1, .str "slow" kp1, .ref qp1⟩, ⟨xp2, .str "forgets" kp2, .ref qp2⟩, ⟨xp3, .str "misreads" kp3, .ref qp3⟩, ⟨xp4, .str "turns" kp4, .ref qp4⟩, ⟨xp5, .str "sets" kp5, .ref qp5⟩, ⟨xp6, .str "keeps" kp6, .ref qp6⟩, ⟨xp7, .str "nowhere" kp7, .ref qp7⟩, ⟨xp8, .str "other" kp8, .ref qp8⟩, ⟨xp9, .str "both" kp9, .ref qp9⟩] epP, #[]⟩)
    (mP : (tP == sysModules) = false)
    {oqp0 : Option Addr} {yp0_0 yp0_1 : Tok} {mp0 : Nat} {sqp0 : Array (Option Value)}
    (tp0 : K.lookup qp0 = some ⟨.type "tuple", oqp0, .seq #[.str "cell" yp0_0, .str "bit" yp0_1] mp0, sqp0⟩)
    {oqp1 : Option Addr} {yp1_0 yp1_1 : Tok} {mp1 : Nat} {sqp1 : Array (Option Value)}
    (tp1 : K.lookup qp1 = some ⟨.type "tuple", oqp1, .seq #[.str "cell" yp1_0, .str "bit" yp1_1] mp1, sqp1⟩)
    {oqp2 : Option Addr} {yp2_0 yp2_1 : Tok} {mp2 : Nat} {sqp2 : Array (Option Value)}
    (tp2 : K.lookup qp2 = some ⟨.type "tuple", oqp2, .seq #[.str "cell" yp2_0, .str "bit" yp2_1] mp2, sqp2⟩)
    {oqp3 : Option Addr} {yp3_0 yp3_1 : Tok} {mp3 : Nat} {sqp3 : Array (Option Value)}
    (tp3 : K.lookup qp3 = some ⟨.type "tuple", oqp3, .seq #[.str "cell" yp3_0, .str "bit" yp3_1] mp3, sqp3⟩)
    {oqp4 : Option Addr} {yp4_0 yp4_1 yp4_2 : Tok} {mp4 : Nat} {sqp4 : Array (Option Value)}
    (tp4 : K.lookup qp4 = some ⟨.type "tuple", oqp4, .seq #[.str "cell" yp4_0, .str "cell" yp4_1, .str "bit" yp4_2] mp4, sqp4⟩)
    {oqp5 : Option Addr} {yp5_0 yp5_1 yp5_2 yp5_3 : Tok} {mp5 : Nat} {sqp5 : Array (Option Value)}
    (tp5 : K.lookup qp5 = some ⟨.type "tuple", oqp5, .seq #[.str "cell" yp5_0, .str "cell" yp5_1, .str "bit" yp5_2, .str "bit" yp5_3] mp5, sqp5⟩)
    {oqp6 : Option Addr} {yp6_0 yp6_1 yp6_2 yp6_3 : Tok} {mp6 : Nat} {sqp6 : Array (Option Value)}
    (tp6 : K.lookup qp6 = some ⟨.type "tuple", oqp6, .seq #[.str "cell" yp6_0, .str "cell" yp6_1, .str "bit" yp6_2, .str "bit" yp6_3] mp6, sqp6⟩)
    {oqp7 : Option Addr} {yp7_0 yp7_1 : Tok} {mp7 : Nat} {sqp7 : Array (Option Value)}
    (tp7 : K.lookup qp7 = some ⟨.type "tuple", oqp7, .seq #[.str "cell" yp7_0, .str "bit" yp7_1] mp7, sqp7⟩)
    {oqp8 : Option Addr} {yp8_0 yp8_1 : Tok} {mp8 : Nat} {sqp8 : Array (Option Value)}
    (tp8 : K.lookup qp8 = some ⟨.type "tuple", oqp8, .seq #[.str "cell" yp8_0, .str "cell" yp8_1] mp8, sqp8⟩)
    {oqp9 : Option Addr} {yp9_0 yp9_1 yp9_2 : Tok} {mp9 : Nat} {sqp9 : Array (Option Value)}
    (tp9 : K.lookup qp9 = some ⟨.type "tuple", oqp9, .seq #[.str "cell" yp9_0, .str "cell" yp9_1, .str "how" yp9_2] mp9, sqp9⟩) :
    ∃ fd : FuncData, (∀ (s : Shared) (v : Value), BindsTo s fd ⟨[v], []⟩ [("_law_script", v)]) ∧ ∀ base : Heap, K.In base → base.Ns mainGlobals mg → FnOk l.prog w K mg base CX0 10 fa fd ["_law_script"] (sp_law K) := by
  have e := hfa.symm.trans (PySem.W.mg_of X G a19)
  cases e
  have B : Bl mg := ⟨fun x hx => by
    unfold blNames at hx
    simp only [List.mem_cons, List.not_mem_nil, or_false] at hx
    rcases hx with rfl | rfl | rfl | rfl | rfl | rfl | rfl | rfl | rfl | rfl | rfl | rfl | rfl | rfl | rfl | rfl
    · exact PySem.W.mg_none_of X G z0
    · exact PySem.W.mg_none_of X G z1
    · exact PySem.W.mg_none_of X G z2
    · exact PySem.W.mg_none_of X G z3
    · exact PySem.W.mg_none_of X G z4
    · exact PySem.W.mg_none_of X G z5
    · exact PySem.W.mg_none_of X G z6
    · exact PySem.W.mg_none_of X G z7
    · exact PySem.W.mg_none_of X G z8
    · exact PySem.W.mg_none_of X G z9
    · exact PySem.W.mg_none_of X G z10
    · exact PySem.W.mg_none_of X G z11
    · exact PySem.W.mg_none_of X G z12
    · exact PySem.W.mg_none_of X G z13
    · exact PySem.W.mg_none_of X G z14
    · exact PySem.W.mg_none_of X G z15⟩
  have z_set : mg "set" = none := PySem.W.mg_none_of X G zset
  have z_zip : mg "zip" = none := PySem.W.mg_none_of X G zzip
  have z_all : mg "all" = none := PySem.W.mg_none_of X G zall
  have g_MC : ∃ t, mg "MOST_CELLS" = some (.int 64 t) := ⟨_, PySem.W.mg_of X G aMC⟩
  have g_MH : ∃ t, mg "MOST_HARMS" = some (.int 3 t) := ⟨_, PySem.W.mg_of X G aMH⟩
  have g_MU : ∃ t, mg "MOST_UNLIKE" = some (.int 3 t) := ⟨_, PySem.W.mg_of X G aMU⟩
  have g_J : GTup K mg "JOININGS" [.str "and", .str "or"] := gtup_mk (PySem.W.mg_of X G aJ) lJ (by show 2 ≤ sizeLine; decide) (.cons ⟨_, rfl⟩ (.cons ⟨_, rfl⟩ .nil))
  have gP := PySem.W.mg_of X G aP
  have sp0 : ∀ H, SqT K H qp0 [.str "cell", .str "bit"] := sqT_mk tp0 (by show 2 ≤ sizeLine; decide) (.cons ⟨_, rfl⟩ (.cons ⟨_, rfl⟩ .nil))
  have sp1 : ∀ H, SqT K H qp1 [.str "cell", .str "bit"] := sqT_mk tp1 (by show 2 ≤ sizeLine; decide) (.cons ⟨_, rfl⟩ (.cons ⟨_, rfl⟩ .nil))
  have sp2 : ∀ H, SqT K H qp2 [.str "cell", .str "bit"] := sqT_mk tp2 (by show 2 ≤ sizeLine; decide) (.cons ⟨_, rfl⟩ (.cons ⟨_, rfl⟩ .nil))
  have sp3 : ∀ H, SqT K H qp3 [.str "cell", .str "bit"] := sqT_mk tp3 (by show 2 ≤ sizeLine; decide) (.cons ⟨_, rfl⟩ (.cons ⟨_, rfl⟩ .nil))
  have sp4 : ∀ H, SqT K H qp4 [.str "cell", .str "cell", .str "bit"] := sqT_mk tp4 (by show 3 ≤ sizeLine; decide) (.cons ⟨_, rfl⟩ (.cons ⟨_, rfl⟩ (.cons ⟨_, rfl⟩ .nil)))
  have sp5 : ∀ H, SqT K H qp5 [.str "cell", .str "cell", .str "bit", .str "bit"] := sqT_mk tp5 (by show 4 ≤ sizeLine; decide) (.cons ⟨_, rfl⟩ (.cons ⟨_, rfl⟩ (.cons ⟨_, rfl⟩ (.cons ⟨_, rfl⟩ .nil))))
  have sp6 : ∀ H, SqT K H qp6 [.str "cell", .str "cell", .str "bit", .str "bit"] := sqT_mk tp6 (by show 4 ≤ sizeLine; decide) (.cons ⟨_, rfl⟩ (.cons ⟨_, rfl⟩ (.cons ⟨_, rfl⟩ (.cons ⟨_, rfl⟩ .nil))))
  have sp7 : ∀ H, SqT K H qp7 [.str "cell", .str "bit"] := sqT_mk tp7 (by show 2 ≤ sizeLine; decide) (.cons ⟨_, rfl⟩ (.cons ⟨_, rfl⟩ .nil))
  have sp8 : ∀ H, SqT K H qp8 [.str "cell", .str "cell"] := sqT_mk tp8 (by show 2 ≤ sizeLine; decide) (.cons ⟨_, rfl⟩ (.cons ⟨_, rfl⟩ .nil))
  have sp9 : ∀ H, SqT K H qp9 [.str "cell", .str "cell", .str "how"] := sqT_mk tp9 (by show 3 ≤ sizeLine; decide) (.cons ⟨_, rfl⟩ (.cons ⟨_, rfl⟩ (.cons ⟨_, rfl⟩ .nil)))
  have TP : TabK K tP tabP := ⟨mP, _, _, _, lP, ⟨rfl, rfl, rfl⟩, rfl, (.cons rfl ⟨_, rfl, sp0⟩ (.cons rfl ⟨_, rfl, sp1⟩ (.cons rfl ⟨_, rfl, sp2⟩ (.cons rfl ⟨_, rfl, sp3⟩ (.cons rfl ⟨_, rfl, sp4⟩ (.cons rfl ⟨_, rfl, sp5⟩ (.cons rfl ⟨_, rfl, sp6⟩ (.cons rfl ⟨_, rfl, sp7⟩ (.cons rfl ⟨_, rfl, sp8⟩ (.cons rfl ⟨_, rfl, sp9⟩ .nil))))))))))⟩
  have F0 : FnAt K mg "is_whole" s_is_whole ["thing"] := fnAt_mk X G a0 l0 c0 k0 fun _ _ _ _ _ _ us hl => match us, hl with | [_], _ => rfl
  have F1 : FnAt K mg "is_bit" s_is_bit ["thing"] := fnAt_mk X G a1 l1 c1 k1 fun _ _ _ _ _ _ us hl => match us, hl with | [_], _ => rfl
  have F2 : FnAt K mg "is_one_of" s_is_one_of ["thing", "words"] := fnAt_mk X G a2 l2 c2 k2 fun _ _ _ _ _ _ us hl => match us, hl with | [_, _], _ => rfl
  have F3 : FnAt K mg "is_cell" s_is_cell ["thing"] := fnAt_mk X G a3 l3 c3 k3 fun _ _ _ _ _ _ us hl => match us, hl with | [_], _ => rfl
  have F4 : FnAt K mg "is_part" s_is_part ["name", "thing"] := fnAt_mk X G a4 l4 c4 k4 fun _ _ _ _ _ _ us hl => match us, hl with | [_, _], _ => rfl
  have F5 : FnAt K mg "has_word" s_has_word ["thing"] := fnAt_mk X G a5 l5 c5 k5 fun _ _ _ _ _ _ us hl => match us, hl with | [_], _ => rfl
  have F6 : FnAt K mg "cells_in" s_cells_in ["harm"] := fnAt_mk X G a6 l6 c6 k6 fun _ _ _ _ _ _ us hl => match us, hl with | [_], _ => rfl
  have F7 : FnAt K mg "has_parts" s_has_parts ["thing"] := fnAt_mk X G a7 l7 c7 k7 fun _ _ _ _ _ _ us hl => match us, hl with | [_], _ => rfl
  have F8 : FnAt K mg "is_harm" s_is_harm ["thing"] := fnAt_mk X G a8 l8 c8 k8 fun _ _ _ _ _ _ us hl => match us, hl with | [_], _ => rfl
  have F9 : FnAt K mg "look_at_harms" s_look_at_harms ["thing"] := fnAt_mk X G a9 l9 c9 k9 fun _ _ _ _ _ _ us hl => match us, hl with | [_], _ => rfl
  have F10 : FnAt K mg "cells_of" s_cells_of ["harms"] := fnAt_mk X G a10 l10 c10 k10 fun _ _ _ _ _ _ us hl => match us, hl with | [_], _ => rfl
  have F11 : FnAt K mg "renamed" s_renamed ["harm", "names"] := fnAt_mk X G a11 l11 c11 k11 fun _ _ _ _ _ _ us hl => match us, hl with | [_, _], _ => rfl
  have F12 : FnAt K mg "placed" s_placed ["harms", "cells"] := fnAt_mk X G a12 l12 c12 k12 fun _ _ _ _ _ _ us hl => match us, hl with | [_, _], _ => rfl
  have F13 : FnAt K mg "little" s_little ["harms"] := fnAt_mk X G a13 l13 c13 k13 fun _ _ _ _ _ _ us hl => match us, hl with | [_], _ => rfl
  have F14 : FnAt K mg "_law_digits" s__law_digits ["_law_cell", "_law_turn", "_law_sizes"] := fnAt_mk X G a14 l14 c14 k14 fun _ _ _ _ _ _ us hl => match us, hl with | [_, _, _], _ => rfl
  have F15 : FnAt K mg "_law_harm" s__law_harm ["_law_d", "_law_some"] := fnAt_mk X G a15 l15 c15 k15 fun _ _ _ _ _ _ us hl => match us, hl with | [_, _], _ => rfl
  have F16 : FnAt K mg "_law_harms" s__law_harms ["_law_cell", "_law_turn", "_law_size", "_law_most"] := fnAt_mk X G a16 l16 c16 k16 fun _ _ _ _ _ _ us hl => match us, hl with | [_, _, _, _], _ => rfl
  have F17 : FnAt K mg "_law_little" s__law_little ["_law_harms_here"] := fnAt_mk X G a17 l17 c17 k17 fun _ _ _ _ _ _ us hl => match us, hl with | [_], _ => rfl
  have F18 : FnAt K mg "_law_placed" s__law_placed ["_law_harms_here", "_law_cells"] := fnAt_mk X G a18 l18 c18 k18 fun _ _ _ _ _ _ us hl => match us, hl with | [_, _], _ => rfl
  have FL := fun_mk (st := s_law) l19 c19 k19
  refine ⟨PySem.W.fnOf "law" "law" (defArgs s_law) (defBody s_law) (defScope s_law) .none kV19 dc19 pm19 an19 cd19 ct19, fun s v => .of_eq rfl, fun base _ _ => ?_⟩
  have h0 := ok_is_whole (P := l.prog) (w := w) (base := base) B F0
  have h1 := ok_is_bit h0 F1
  have h2 := ok_is_one_of (P := l.prog) (w := w) (base := base) B F2
  have h3 := ok_is_cell g_MC h0 F3
  have h4 := ok_is_part g_J h3 h1 h2 F4
  have h5 := ok_has_word (P := l.prog) (w := w) (base := base) B gP TP F5
  have h6 := ok_cells_in (P := l.prog) (w := w) (base := base) B z_zip gP TP F6
  have h7 := ok_has_parts B z_zip z_all gP TP h4 F7
  have h8 := ok_is_harm B z_set h5 h7 h6 F8
  have h9 := ok_look_at_harms B z_set g_MH g_MU h8 h6 F9
  have h10 := ok_cells_of B z_set h9 h6 F10
  have h11 := ok_renamed (P := l.prog) (w := w) (base := base) B z_zip gP TP F11
  have h12 := ok_placed B z_zip h10 h11 F12
  have h13 := ok_little B h10 h12 F13
  have h14 := ok_digits (P := l.prog) (w := w) (base := base) B F14
  have h15 := ok_harm (P := l.prog) (w := w) (base := base) B F15
  have h16 := ok_harms B h14 h15 F16
  have h17 := ok_llittle (P := l.prog) (w := w) (base := base) B F17
  have h18 := ok_lplaced B h17 F18
  exact ok_law B h14 h16 h17 h18 h10 h12 h13 FL
theorem walk {l : PySem.W.OpenLaw} {q : Program} {loose : List Str} {XP : (Str → Option Value) → Heap → Prop} {YP : World → Heap → Prop} {d : DefRec} {K : Params → PySem.W.Frag} (hn : l.most = some 63) (hdf : d.params.defaults = [])
    (hY : ∀ (w : World) (h : Heap), YP w h → (K w.params).In h)
    (F : ∀ (w : World) (mg : Str → Option Value) (fa : Addr) (h : Heap), (K w.params).In h → h.Ns mainGlobals mg → mg d.name = some (.ref fa) →
      ∃ fd : FuncData, (∀ (s : Shared) (u : Value), BindsTo s fd ⟨[u], []⟩ [("_law_script", u)]) ∧ ∀ base : Heap, (K w.params).In base → base.Ns mainGlobals mg → FnOk l.prog w (K w.params) mg base CX0 10 fa fd ["_law_script"] (sp_law (K w.params))) :
    PySem.W.WalkO q loose XP YP l.row.toRowW d [] (fun f vs => PySem.call f vs) :=
  L2.walk_of (n := 63) (k := 10) (x := "_law_script") (CX := fun _ => CX0) (sp := fun w => sp_law (K w.params)) hn (by decide) hdf ⟨rfl, by decide, by decide, rfl⟩ hY F (fun _ _ a ns hl _ hS => ⟨a, ns, rfl, hS, hl, fun _ => rfl⟩) fun _ _ _ _ _ z => z
end Mh
def PySem.W.Fast.tw17551851837051142430 : Nat := 0
def PySem.W.Fast.tw13224535290528481138 := PySem.Challenge.pw_marchmend_k08_little_and_placed
theorem PySem.W.Fast.te13224535290528481138 : PySem.Challenge.pw_marchmend_k08_little_and_placed = PySem.W.Fast.tw13224535290528481138 := rfl
def PySem.W.Fast.tw13379103033886719026 : Nat := 0
def PySem.W.Fast.tw316069242230725219 : Nat := 0
def PySem.W.Fast.tw13416044607532514309 : Nat := 0
def PySem.W.Fast.tw2298510734925611560 : Nat := 0
def PySem.W.Fast.tw4594170573970523873 : Nat := 0
def PySem.W.Fast.tw4512681351971620563 : Nat := 0
def PySem.W.Fast.tw14986444746987649440 : Nat := 0
def PySem.W.Fast.tw17990412890138742760 : Nat := 0
def PySem.W.Fast.tw2947346248982688213 : Nat := 0
def PySem.W.Fast.tw13687640387495360732 : Nat := 0
def PySem.W.Fast.tw1099929761910485207 : Nat := 0
def PySem.W.Fast.tw12083701297640356330 : Nat := 0
def PySem.W.Fast.tw8337260085673707899 : Nat := 0
def PySem.W.Fast.tw17259649788336953525 : Nat := 0
def PySem.W.Fast.tw13745688725613352652 : Nat := 0
def PySem.W.Fast.tw11905555923885393326 : Nat := 0
def PySem.W.Fast.tw3040555368196308957 : Nat := 0
def PySem.W.Fast.tw1534746939491732889 : Nat := 0
def PySem.W.Fast.tw343606034206795265 : Nat := 0
def PySem.W.Fast.tw13335726145810010786 : Nat := 0
def PySem.W.Fast.tw17924518576595122330 : Nat := 0
def PySem.W.Fast.tw2401131839500089373 : Nat := 0
def PySem.W.Fast.tw8948715365203528320 : Nat := 0
def PySem.W.Fast.tw5325897891428310670 : Nat := 0
def PySem.W.Fast.tw12790682063435060835 : Nat := 0
def PySem.W.Fast.tw17052786561362203094 : Nat := 0
def PySem.W.Fast.tw14102359493268058383 : Nat := 0
def PySem.W.Fast.tw7434692069942033106 : Nat := 0
def PySem.W.Fast.tw17060283385707404424 : Nat := 0
def PySem.W.Fast.tw9979037596572641460 : Nat := 0
def PySem.W.Fast.tw11017817068316253509 : Nat := 0
def PySem.W.Fast.tw15560344105081911078 : Nat := 0
def PySem.W.Fast.tw6273143846909501423 : Nat := 0
def PySem.W.Fast.tw1218447963476950235 : Nat := 0
def PySem.W.Fast.tw11491427443396366229 : Nat := 0
def PySem.W.Fast.tw895344754856677921 : Nat := 0
def PySem.W.Fast.tw7135429510576515545 : Nat := 0
def PySem.W.Fast.tw17863321701514954649 : Nat := 0
def PySem.W.Fast.tw2604088728838383470 : Nat := 0
def PySem.W.Fast.tw10226812930039509926 : Nat := 0
open PySem PySem.W PyProof.Rows
set_option maxRecDepth 100000 in
set_option maxHeartbeats 0 in
theorem PySem.Challenge.cw_marchmend_k08_little_and_placed_holds : PySem.Challenge.rw_marchmend_k08_little_and_placed.Holds := by
  w_on; o_law; k_head; (case hw => w_witness2)
  k_fill
  refine Mh.walk (l := PySem.Challenge.rw_marchmend_k08_little_and_placed) rfl rfl (fun w h Y => PySem.W.kIn_of Y) ?F
  case F =>
    intro w mg fa h KX G hmg
    refine' Mh.all_mk KX G hmg ?a0 ?l0 ?c0 ?k0 ?a1 ?l1 ?c1 ?k1 ?a2 ?l2 ?c2 ?k2 ?a3 ?l3 ?c3 ?k3 ?a4 ?l4 ?c4 ?k4 ?a5 ?l5 ?c5 ?k5 ?a6 ?l6 ?c6 ?k6 ?a7 ?l7 ?c7 ?k7 ?a8 ?l8 ?c8 ?k8 ?a9 ?l9 ?c9 ?k9 ?a10 ?l10 ?c10 ?k10 ?a11 ?l11 ?c11 ?k11 ?a12 ?l12 ?c12 ?k12 ?a13 ?l13 ?c13 ?k13 ?a14 ?l14 ?c14 ?k14 ?a15 ?l15 ?c15 ?k15 ?a16 ?l16 ?c16 ?k16 ?a17 ?l17 ?c17 ?k17 ?a18 ?l18 ?c18 ?k18 ?a19 ?l19 ?c19 ?k19 ?z0 ?z1 ?z2 ?z3 ?z4 ?z5 ?z6 ?z7 ?z8 ?z9 ?z10 ?z11 ?z12 ?z13 ?z14 ?z15 ?zset ?zzip ?zall ?aMC ?aMH ?aMU ?aJ ?lJ ?aP ?lP ?mP ?tp0 ?tp1 ?tp2 ?tp3 ?tp4 ?tp5 ?tp6 ?tp7 ?tp8 ?tp9
    (case a0 => k_is)
    (case l0 => k_is)
    (case c0 => k_is)
    (case k0 => k_is)
    (case a1 => k_is)
    (case l1 => k_is)
    (case c1 => k_is)
    (case k1 => k_is)
    (case a2 => k_is)
    (case l2 => k_is)
    (case c2 => k_is)
    (case k2 => k_is)
    (case a3 => k_is)
    (case l3 => k_is)
    (case c3 => k_is)
    (case k3 => k_is)
    (case a4 => k_is)
    (case l4 => k_is)
    (case c4 => k_is)
    (case k4 => k_is)
    (case a5 => k_is)
    (case l5 => k_is)
    (case c5 => k_is)
    (case k5 => k_is)
    (case a6 => k_is)
    (case l6 => k_is)
    (case c6 => k_is)
    (case k6 => k_is)
    (case a7 => k_is)
    (case l7 => k_is)
    (case c7 => k_is)
    (case k7 => k_is)
    (case a8 => k_is)
    (case l8 => k_is)
    (case c8 => k_is)
    (case k8 => k_is)
    (case a9 => k_is)
    (case l9 => k_is)
    (case c9 => k_is)
    (case k9 => k_is)
    (case a10 => k_is)
    (case l10 => k_is)
    (case c10 => k_is)
    (case k10 => k_is)
    (case a11 => k_is)
    (case l11 => k_is)
    (case c11 => k_is)
    (case k11 => k_is)
    (case a12 => k_is)
    (case l12 => k_is)
    (case c12 => k_is)
    (case k12 => k_is)
    (case a13 => k_is)
    (case l13 => k_is)
    (case c13 => k_is)
    (case k13 => k_is)
    (case a14 => k_is)
    (case l14 => k_is)
    (case c14 => k_is)
    (case k14 => k_is)
    (case a15 => k_is)
    (case l15 => k_is)
    (case c15 => k_is)
    (case k15 => k_is)
    (case a16 => k_is)
    (case l16 => k_is)
    (case c16 => k_is)
    (case k16 => k_is)
    (case a17 => k_is)
    (case l17 => k_is)
    (case c17 => k_is)
    (case k17 => k_is)
    (case a18 => k_is)
    (case l18 => k_is)
    (case c18 => k_is)
    (case k18 => k_is)
    (case a19 => k_is)
    (case l19 => k_is)
    (case c19 => k_is)
    (case k19 => k_is)
    (case z0 => k_is)
    (case z1 => k_is)
    (case z2 => k_is)
    (case z3 => k_is)
    (case z4 => k_is)
    (case z5 => k_is)
    (case z6 => k_is)
    (case z7 => k_is)
    (case z8 => k_is)
    (case z9 => k_is)
    (case z10 => k_is)
    (case z11 => k_is)
    (case z12 => k_is)
    (case z13 => k_is)
    (case z14 => k_is)
    (case z15 => k_is)
    (case zset => k_is)
    (case zzip => k_is)
    (case zall => k_is)
    (case aMC => k_is)
    (case aMH => k_is)
    (case aMU => k_is)
    (case aJ => k_is)
    (case lJ => k_is)
    (case aP => k_is)
    (case lP => k_is)
    (case mP => rfl)
    (case tp0 => k_is)
    (case tp1 => k_is)
    (case tp2 => k_is)
    (case tp3 => k_is)
    (case tp4 => k_is)
    (case tp5 => k_is)
    (case tp6 => k_is)
    (case tp7 => k_is)
    (case tp8 => k_is)
    (case tp9 => k_is)
#print axioms PySem.Challenge.cw_marchmend_k08_little_and_placed_holds
