import PyProof.Rows.All
import Wide.All
import OpenK.AllK
import Wide.FinOn
import PyProof.EqAt
import PyProof.EqKinds
import PyProof.TupleCall
import KE.BitLaws
import Open.SpecLaws
import KE.OsHead
import KE.OsGo
import KE.KLam
import KE.KMinKey
import PySem.Challenge.RW_goodkinds_s07_interval
section
set_option Elab.async false
set_option linter.all false
set_option maxRecDepth 100000
/-! THE HAND LAYER, for ints, bools, texts, own classes, lists, tuples, dicts, comprehensions, walks over dicts, enumerate, zip, reversed, texts, calls, loops. Paste it whole ahead of your own text; what your proof does not reach may be deleted. -/
namespace L2
open PySem PySem.Spec PyProof.Rows

/-- a key: an int or a str -/
abbrev Key := Sum Int Str
def keyIs : Key → Value → Bool
  | .inl k, v => Value.isInt k v
  | .inr x, v => Value.isStrOf x v
def keyH (w : World) : Key → Int
  | .inl k => hashInt k
  | .inr x => hashStr w x
theorem keyIs_shape : ∀ {k : Key} {v : Value}, keyIs k v = true → (∃ i t, k = Sum.inl i ∧ v = Value.int i t) ∨ (∃ x t, k = Sum.inr x ∧ v = Value.str x t)
  | .inl i, v, h => by
    obtain ⟨t, e⟩ := Value.isInt_shape (k := i) (v := v) h
    exact .inl ⟨i, t, rfl, e⟩
  | .inr x, v, h => by
    obtain ⟨t, e⟩ := Value.isStrOf_shape (x := x) (v := v) h
    exact .inr ⟨x, t, rfl, e⟩
theorem key_ll (a b : Int) : decide ((Sum.inl a : Key) = Sum.inl b) = (a == b) := by
  by_cases e : a = b
  · subst e; simp
  · have h : ¬ (Sum.inl a : Key) = Sum.inl b := fun q => e (Sum.inl.inj q)
    rw [decide_eq_false h]
    exact (beq_eq_false_iff_ne.mpr e).symm
theorem key_rr (a b : Str) : decide ((Sum.inr a : Key) = Sum.inr b) = decide (a = b) := by
  by_cases e : a = b
  · subst e; simp
  · have h : ¬ (Sum.inr a : Key) = Sum.inr b := fun q => e (Sum.inr.inj q)
    rw [decide_eq_false h, decide_eq_false e]
theorem key_lr (a : Int) (b : Str) : decide ((Sum.inl a : Key) = Sum.inr b) = false := decide_eq_false (fun q => nomatch q)
theorem key_rl (a : Str) (b : Int) : decide ((Sum.inr a : Key) = Sum.inl b) = false := decide_eq_false (fun q => nomatch q)

def mixKind (prog : Program) (w : World) : PySem.KeyKind prog w Key where
  is := keyIs
  hash := keyH w
  inj := fun v a b ha hb => by
    rcases keyIs_shape ha with ⟨i, t, rfl, rfl⟩ | ⟨x, t, rfl, rfl⟩
    · rcases keyIs_shape hb with ⟨j, u, rfl, e⟩ | ⟨y, u, rfl, e⟩
      · injection e with e1 _; rw [e1]
      · exact nomatch e
    · rcases keyIs_shape hb with ⟨j, u, rfl, e⟩ | ⟨y, u, rfl, e⟩
      · exact nomatch e
      · injection e with e1 _; rw [e1]
  byValue := fun k v h => by
    rcases keyIs_shape h with ⟨i, t, rfl, rfl⟩ | ⟨x, t, rfl, rfl⟩ <;> rfl
  pyHash := fun hv h => by
    rcases keyIs_shape hv with ⟨i, t, rfl, rfl⟩ | ⟨x, t, rfl, rfl⟩
    · exact wpAny_pyHash_int h
    · exact wpAny_pyHash_str h
  eqBool := fun hu hv h => by
    rcases keyIs_shape hu with ⟨i, t, rfl, rfl⟩ | ⟨x, t, rfl, rfl⟩
    · rcases keyIs_shape hv with ⟨j, u, rfl, rfl⟩ | ⟨y, u, rfl, rfl⟩
      · rw [key_ll] at h; exact wpAny_eqBool_int h
      · rw [key_lr] at h; exact SeqAt.EqAt.int_str i t y u _ _ _ _ h
    · rcases keyIs_shape hv with ⟨j, u, rfl, rfl⟩ | ⟨y, u, rfl, rfl⟩
      · rw [key_rl] at h; exact SeqAt.EqAt.str_int x t j u _ _ _ _ h
      · rw [key_rr] at h; exact wpAny_eqBool_str h
  «strs» := fun k x t v h => by
    rcases keyIs_shape h with ⟨i, u, rfl, e⟩ | ⟨y, u, rfl, e⟩
    · exact nomatch e
    · injection e with e1 _
      subst e1
      cases v <;> rfl

end L2

namespace L2
open PySem PySem.Spec PyProof.Rows

/-- a value, without the heap -/
inductive V where
  | non | bl (b : Bool) | int (i : Int) | str (x : Str) | byt (b : Array UInt8) | flt (b : UInt64) | ref (a : Addr) | ty (n : String)
  deriving DecidableEq

def RelV : V → Value → Prop
  | .non, u => u = Value.none
  | .bl b, u => u = Value.bool b
  | .int i, u => ∃ t, u = Value.int i t
  | .str x, u => ∃ t, u = Value.str x t
  | .byt b, u => ∃ t, u = Value.bytes b t
  | .flt b, u => ∃ t, u = Value.float b t
  | .ref a, u => u = Value.ref a
  | .ty n, u => u = Value.type n

abbrev Vals : List V → List Value → Prop := Paired RelV
theorem Vals.length {xs : List V} {us : List Value} (r : Vals xs us) : xs.length = us.length := Paired.length r
theorem Vals.get : ∀ {xs : List V} {us : List Value} {i : Nat} {x : V}, Vals xs us → xs[i]? = some x → ∃ u, us[i]? = some u ∧ RelV x u
  | _, _, _, _, .nil, e => by simp at e
  | _, _, 0, _, .cons r _, e => by simp at e; subst e; exact ⟨_, rfl, r⟩
  | _, _, i + 1, x, .cons _ t, e => by
    obtain ⟨u, h1, h2⟩ := Vals.get (i := i) (x := x) t (by simpa using e)
    exact ⟨u, by simpa using h1, h2⟩
theorem Vals.append : ∀ {xs ys : List V} {us ws : List Value}, Vals xs us → Vals ys ws → Vals (xs ++ ys) (us ++ ws)
  | _, _, _, _, .nil, s => s
  | _, _, _, _, .cons r t, s => .cons r (Vals.append t s)
def RelO : Option V → Option Value → Prop
  | some v, some u => RelV v u
  | none, none => True
  | _, _ => False
def KV {κ : Type} : List (κ × V) → List (κ × Value) → Prop := Paired fun (p : κ × V) (q : κ × Value) => p.1 = q.1 ∧ RelV p.2 q.2

/-- a key of a dict (00_mix): an int or a text -/
def kV : Key → V
  | .inl i => .int i
  | .inr x => .str x

/-- what stands at a tracked address -/
inductive HO where
  /-- a list -/
  | lst (xs : List V)
  /-- a tuple (never changes) -/
  | tup (xs : List V)
  /-- a dict whose keys are ints and texts; one whose keys are tuples of ints and texts (the empty one is both) -/
  | dK (kvs : List (Key × V)) | dT (kvs : List (List Key × V))
  /-- a set of ints: its members, its size -/
  | set (S : Int → Bool) (n : Nat)
  /-- an instance of the class at C, its dict at dx, its attributes -/
  | ins (C dx : Addr) (fs : List (Str × V))
  /-- the dict of the instance at x -/
  | own (x : Addr)
  /-- the dict of an exception -/
  | xd (fs : List (Str × V))
  /-- a bound method, f of x -/
  | met (f x : Addr)
  /-- a range object lo, lo + 1, .. below hi -/
  | rng (lo hi : Int)
  /-- a thing that is known to the object (the script; a dict while a loop walks it): read, never written while it is so -/
  | frz (o : Obj) (u : HO)
  /-- a code object's table -/
  | tbl (ps : Array Value)
  /-- any other thing, by what is true of its one object (a def of one's own: SetO a S n := HO.ext fun h => ..) -/
  | ext (φ : Heap → Prop)

abbrev Hp := Addr → Option HO
def upd (H : Hp) (a : Addr) (o : HO) : Hp := fun b => if b = a then some o else H b
theorem upd_same {H : Hp} {a : Addr} {o : HO} : upd H a o a = some o := by unfold upd; rw [if_pos rfl]
theorem upd_ne {H : Hp} {a b : Addr} {o : HO} (h : b ≠ a) : upd H a o b = H b := by unfold upd; rw [if_neg h]
/-- two objects of different content stand apart -/
theorem ne_of {H : Hp} {a b : Addr} {o u : HO} (h : H a = some o) (h' : H b = some u) (d : o ≠ u) : a ≠ b := by
  intro e; subst e; rw [h] at h'; exact d (Option.some.inj h')
theorem ne_of_none {H : Hp} {a b : Addr} {o : HO} (h : H a = some o) (h' : H b = none) : a ≠ b := by
  intro e; subst e; rw [h] at h'; cases h'

section
variable (P : Program) (w : World)
def ObjOk (H : Hp) (h : Heap) (a : Addr) : HO → Prop
  | .lst xs => xs.length ≤ sizeLine ∧ ∃ (its : List Value) (n : Nat), Vals xs its ∧ h.get? a = some { cls := .type "list", data := .seq its.toArray n }
  | .tup xs => xs.length ≤ sizeLine ∧ ∃ its : List Value, Vals xs its ∧ IsTup h a its.toArray
  | .dK kvs => kvs.length ≤ sizeLine ∧ (a == sysModules) = false ∧ ∃ vs, KV kvs vs ∧ h.DictOf (mixKind P w) a vs
  | .dT kvs => kvs.length ≤ sizeLine ∧ (a == sysModules) = false ∧ ∃ xs : List (List Key × Addr × Value),
      Paired (fun (p : List Key × V) (q : List Key × Addr × Value) => p.1 = q.1 ∧ H q.2.1 = some (.tup (p.1.map kV)) ∧ RelV p.2 q.2.2) kvs xs ∧
      ∃ o es ep, h.get? a = some o ∧ o.ExactDict ∧ o.data = .dict es ep ∧ es.toList = xs.map (entryOfKey (tupleKind (mixKind P w))) ∧ (xs.map (·.1)).Nodup
  | .set S n => h.SetOf (intKind P w) a S n
  | .ins C dx fs => H dx = some (.own a) ∧ fs.length ≤ 1000 ∧ dx ≠ a ∧ h.get? a = some (PySem.W.instObj C dx) ∧
      ∃ mA, h.Ns1 dx mA ∧ (∀ f, RelO (fs.lookup f) (mA f)) ∧ PySem.Within mA (fs.map (·.1))
  | .own _ => ∃ o, h.get? a = some o
  | .xd fs => ∃ mA, h.Ns1 a mA ∧ ∀ f, RelO (fs.lookup f) (mA f)
  | .rng lo hi => ∃ t u v, h.get? a = some { cls := .type "range", data := .fields #[.int lo t, .int hi u, .int 1 v] }
  | .frz o u => h.get? a = some o ∧ ObjOk H h a u
  | .tbl ps => h.get? a = some { cls := .none, data := .fields ps }
  | .met f x => h.get? a = some (PySem.W.methodObj (.ref f) (.ref x))
  | .ext φ => φ h ∧ (∃ o, h.get? a = some o) ∧ ∀ h1 h2 : Heap, φ h1 → (∀ o, h1.get? a = some o → h2.get? a = some o) → φ h2
/-- the abstract heap is held -/
def HOk (H : Hp) (h : Heap) : Prop := ∀ a o, H a = some o → ObjOk P w H h a o
end

section
variable {P : Program} {w : World} {H H' : Hp} {h h' : Heap} {a : Addr} {o : HO}
theorem ObjOk.lt (x : ObjOk P w H h a o) : a < h.objs.size := by
  cases o with
  | lst xs => obtain ⟨_, _, _, _, e⟩ := x; exact Heap.lt_size e
  | tup xs => obtain ⟨_, _, _, p⟩ := x; exact p.lt
  | dK kvs => obtain ⟨_, _, _, _, o, _, _, e, _⟩ := x; exact Heap.lt_size e
  | dT kvs => obtain ⟨_, _, _, _, o, _, _, e, _⟩ := x; exact Heap.lt_size e
  | set S n => obtain ⟨o, _, _, _, e, _⟩ := x; exact Heap.lt_size e
  | ins C dx fs => obtain ⟨_, _, _, e, _⟩ := x; exact Heap.lt_size e
  | own y => obtain ⟨_, e⟩ := x; exact Heap.lt_size e
  | xd fs => obtain ⟨_, ⟨_, _, _, e, _⟩, _⟩ := x; exact Heap.lt_size e
  | rng lo hi => obtain ⟨_, _, _, e⟩ := x; exact Heap.lt_size e
  | frz ob u => obtain ⟨e, _⟩ := x; exact Heap.lt_size e
  | tbl ps => exact Heap.lt_size (show h.get? a = some _ from x)
  | met f y => exact Heap.lt_size (show h.get? a = some _ from x)
  | ext φ => obtain ⟨_, ⟨_, e⟩, _⟩ := x; exact Heap.lt_size e
theorem Paired.mapP {α β : Type} {F G : α → β → Prop} : ∀ {l₁ : List α} {l₂ : List β}, Paired F l₁ l₂ → (∀ a b, F a b → G a b) → Paired G l₁ l₂
  | _, _, .nil, _ => .nil
  | _, _, .cons r t, f => .cons (f _ _ r) (Paired.mapP t f)
/-- what an object's description leans on: its own object, its own dict, the tuples -/
theorem ObjOk.stay (x : ObjOk P w H h a o) (k : ∀ b u, (b = a ∨ H b = some (.own a)) → h.get? b = some u → h'.get? b = some u)
    (ho : ∀ b, H b = some (.own a) → H' b = some (.own a)) (ht : ∀ b xs, H b = some (.tup xs) → H' b = some (.tup xs)) : ObjOk P w H' h' a o := by
  induction o with
  | lst xs => obtain ⟨z, its, n, r, e⟩ := x; exact ⟨z, its, n, r, k _ _ (.inl rfl) e⟩
  | tup xs => obtain ⟨z, its, r, ob, e, c⟩ := x; exact ⟨z, its, r, ob, k _ _ (.inl rfl) e, c⟩
  | dK kvs => obtain ⟨z, y, vs, r, ob, es, ep, e, c⟩ := x; exact ⟨z, y, vs, r, ob, es, ep, k _ _ (.inl rfl) e, c⟩
  | dT kvs =>
    obtain ⟨z, y, xs, r, ob, es, ep, e, c⟩ := x
    exact ⟨z, y, xs, Paired.mapP r fun p q z => ⟨z.1, ht _ _ z.2.1, z.2.2⟩, ob, es, ep, k _ _ (.inl rfl) e, c⟩
  | set S n => obtain ⟨ob, es, ep, t, e, c⟩ := x; exact ⟨ob, es, ep, t, k _ _ (.inl rfl) e, c⟩
  | ins C dx fs =>
    obtain ⟨d, z, ne, e, mA, ⟨od, es, ep, e2, c⟩, r⟩ := x
    exact ⟨ho _ d, z, ne, k _ _ (.inl rfl) e, mA, ⟨od, es, ep, k _ _ (.inr d) e2, c⟩, r⟩
  | own y => obtain ⟨ob, e⟩ := x; exact ⟨ob, k _ _ (.inl rfl) e⟩
  | xd fs => obtain ⟨mA, ⟨od, es, ep, e, c⟩, r⟩ := x; exact ⟨mA, ⟨od, es, ep, k _ _ (.inl rfl) e, c⟩, r⟩
  | rng lo hi => obtain ⟨t, u, v, e⟩ := x; exact ⟨t, u, v, k _ _ (.inl rfl) e⟩
  | frz ob u ih => obtain ⟨e, q⟩ := x; exact ⟨k _ _ (.inl rfl) e, ih q⟩
  | tbl ps =>
    have e : h.get? a = some { cls := .none, data := .fields ps } := x
    show h'.get? a = some { cls := .none, data := .fields ps }
    exact k a _ (.inl rfl) e
  | met f y =>
    have e : h.get? a = some (PySem.W.methodObj (.ref f) (.ref y)) := x
    show h'.get? a = some (PySem.W.methodObj (.ref f) (.ref y))
    exact k a _ (.inl rfl) e
  | ext φ => obtain ⟨p, ⟨o, e⟩, st⟩ := x; exact ⟨st _ _ p fun o q => k _ _ (.inl rfl) q, ⟨o, k _ _ (.inl rfl) e⟩, st⟩
theorem HOk.lt (x : HOk P w H h) (e : H a = some o) : a < h.objs.size := (x a o e).lt
theorem HOk.fresh (x : HOk P w H h) (e : h.objs.size ≤ a) : H a = none := by
  cases q : H a with
  | none => rfl
  | some u => exact absurd (Nat.lt_of_lt_of_le (x.lt q) e) (Nat.lt_irrefl _)
/-- every object of the heap is kept -/
theorem HOk.kept (x : HOk P w H h) (k : ∀ b u, h.get? b = some u → h'.get? b = some u) : HOk P w H h' := fun a o e =>
  (x a o e).stay (fun b u _ q => k b u q) (fun _ q => q) fun _ _ q => q
/-- a new object is laid and tracked -/
theorem HOk.laid (x : HOk P w H h) (k : ∀ b u, h.get? b = some u → h'.get? b = some u) (hp : h.objs.size ≤ a) (new : ObjOk P w (upd H a o) h' a o) : HOk P w (upd H a o) h' := fun b u e => by
  have hn := x.fresh hp
  by_cases hb : b = a
  · subst hb; rw [upd_same] at e; cases e; exact new
  · rw [upd_ne hb] at e
    exact (x b u e).stay (fun c v _ q => k c v q) (fun c q => by rw [upd_ne (ne_of_none q hn)]; exact q) fun c xs q => by rw [upd_ne (ne_of_none q hn)]; exact q
end

/-- what may be read as u: it is u, or a known u -/
def Rd (H : Hp) (a : Addr) (u : HO) : Prop := H a = some u ∨ ∃ o, H a = some (.frz o u)
theorem Rd.ok {P : Program} {w : World} {H : Hp} {h : Heap} {a : Addr} {u : HO} (r : Rd H a u) (x : HOk P w H h) : ObjOk P w H h a u := by
  rcases r with r | ⟨o, r⟩
  · exact x a u r
  · obtain ⟨_, q⟩ := x a _ r
    exact q
/-- what may be written -/
def Mut : Option HO → Prop
  | some (.lst _) => True
  | some (.dK _) => True
  | some (.dT _) => True
  | some (.set _ _) => True
  | some (.ins _ _ _) => True
  | some (.ext _) => True
  | _ => False
section
variable {P : Program} {w : World} {H : Hp} {h h' : Heap} {x e : Addr} {o' : HO}
/-- the object at e is changed: x itself, or the dict of the instance x -/
theorem HOk.write (ok : HOk P w H h) (mu : Mut (H x)) (he : e = x ∨ H e = some (.own x)) (k : ∀ b u, b ≠ e → h.get? b = some u → h'.get? b = some u) (heo : ∃ u, h'.get? e = some u)
    (new : ObjOk P w (upd H x o') h' x o') : HOk P w (upd H x o') h' := fun b u q => by
  have nown : ∀ c y, H c = some (.own y) → c ≠ x := fun c y r z => by subst z; rw [r] at mu; exact mu
  have ntup : ∀ c xs, H c = some (.tup xs) → c ≠ x := fun c xs r z => by subst z; rw [r] at mu; exact mu
  by_cases hb : b = x
  · subst hb; rw [upd_same] at q; cases q; exact new
  · rw [upd_ne hb] at q
    by_cases hbe : b = e
    · have q' : H b = some (.own x) := by
        rcases he with z | z
        · exact absurd (hbe.trans z) hb
        · rw [hbe]; exact z
      rw [q] at q'; cases q'
      obtain ⟨v, hv⟩ := heo
      exact ⟨v, by rw [hbe]; exact hv⟩
    · refine (ok b u q).stay (fun c v hc r => k c v ?_ r) (fun c r => by rw [upd_ne (nown c b r)]; exact r) fun c xs r => by rw [upd_ne (ntup c xs r)]; exact r
      rcases hc with rfl | hc
      · exact hbe
      · rintro rfl
        rcases he with z | z
        · exact nown c b hc z
        · rw [hc] at z; cases z; exact hb rfl
end

/-! ### kept unless tracked; of the frames at fs (the callers') the slots may change (an exception that passes writes there); of the records at ex (iterators) nothing is said -/
structure Un (fs ex : List Addr) (H H' : Hp) (h h' : Heap) : Prop where
  keep : ∀ b o, h.get? b = some o → H b = none → b ∉ fs → b ∉ ex → h'.get? b = some o
  slot : ∀ b o, h.get? b = some o → H b = none → b ∈ fs → b ∉ ex → ∃ sl, h'.get? b = some { o with slots := sl }
  free : ∀ b o, h.get? b = some o → H b = none → b ∉ ex → H' b = none
  there : ∀ b o, h.get? b = some o → b ∉ ex → ∃ o', h'.get? b = some o'
  tups : ∀ b xs, H b = some (.tup xs) → H' b = some (.tup xs)
  frzs : ∀ b o u, H b = some (.frz o u) → H' b = some (.frz o u)
  tbls : ∀ b ps, H b = some (.tbl ps) → ∃ more, H' b = some (.tbl (ps ++ more))
section
variable {fs fs' ex ex' : List Addr} {H H1 H2 : Hp} {h h1 h2 h' : Heap} {a x e : Addr} {o : HO}
theorem Un.any (u : Un fs ex H H1 h h1) {b : Addr} {ob : Obj} (q : h.get? b = some ob) (n : H b = none) (hx : b ∉ ex) : ∃ sl, h1.get? b = some { ob with slots := sl } := by
  by_cases hb : b ∈ fs
  · exact u.slot b ob q n hb hx
  · exact ⟨ob.slots, u.keep b ob q n hb hx⟩
theorem Un.kept (k : ∀ b u, h.get? b = some u → h'.get? b = some u) : Un fs ex H H h h' :=
  ⟨fun b ob q _ _ _ => k b ob q, fun b ob q _ _ _ => ⟨ob.slots, k b ob q⟩, fun _ _ _ n _ => n, fun b ob q _ => ⟨ob, k b ob q⟩, fun _ _ q => q, fun _ _ _ q => q, fun _ ps q => ⟨#[], by rw [q]; simp⟩⟩
theorem Un.refl : Un fs ex H H h h := Un.kept fun _ _ q => q
theorem Un.laid (k : ∀ b u, h.get? b = some u → h'.get? b = some u) (hp : h.objs.size ≤ a) (hn : H a = none) : Un fs ex H (upd H a o) h h' where
  keep := fun b u q _ _ _ => k b u q
  slot := fun b u q _ _ _ => ⟨u.slots, k b u q⟩
  free := fun b u q n _ => by rw [upd_ne (Nat.ne_of_lt (Nat.lt_of_lt_of_le (Heap.lt_size q) hp))]; exact n
  there := fun b u q _ => ⟨u, k b u q⟩
  tups := fun b xs q => by rw [upd_ne (ne_of_none q hn)]; exact q
  frzs := fun b u xs q => by rw [upd_ne (ne_of_none q hn)]; exact q
  tbls := fun b ps q => ⟨#[], by rw [upd_ne (ne_of_none q hn), q]; simp⟩
theorem Un.write (mu : Mut (H x)) (he : e = x ∨ H e = some (.own x)) (k : ∀ b u, b ≠ e → h.get? b = some u → h'.get? b = some u) (heo : ∃ u, h'.get? e = some u) : Un fs ex H (upd H x o) h h' := by
  have hx : ∀ b, H b = none → b ≠ x := fun b n z => by subst z; rw [n] at mu; exact mu
  have hb : ∀ b, H b = none → b ≠ e := fun b n z => by
    subst z
    rcases he with r | r
    · exact hx b n r
    · rw [n] at r; cases r
  have hm : ∀ b u, H b = some u → ¬ Mut (some u) → b ≠ x := fun b u q nm z => by subst z; rw [q] at mu; exact nm mu
  refine ⟨fun b u q n _ _ => k b u (hb b n) q, fun b u q n _ _ => ⟨u.slots, k b u (hb b n) q⟩, fun b u q n _ => by rw [upd_ne (hx b n)]; exact n, fun b u q _ => ?_,
    fun b xs q => by rw [upd_ne (hm b _ q fun z => z)]; exact q, fun b u xs q => by rw [upd_ne (hm b _ q fun z => z)]; exact q, fun b ps q => ⟨#[], by rw [upd_ne (hm b _ q fun z => z), q]; simp⟩⟩
  by_cases hbe : b = e
  · subst hbe; exact heo
  · exact ⟨u, k b u hbe q⟩
end

/-! ### the heap without what is tracked -/
def trk (h : Heap) (H : Hp) : List Addr := (List.range h.objs.size).filter fun a => (H a).isSome
def hidT (h : Heap) (H : Hp) : Heap := PySem.W.hideAll h (trk h H)
theorem hidT_size (h : Heap) (H : Hp) : (hidT h H).objs.size = h.objs.size := PySem.W.hideAll_size _ _
theorem hidT_get {h : Heap} {H : Hp} {b : Addr} {o : Obj} (e : h.get? b = some o) (n : H b = none) : (hidT h H).get? b = some o :=
  PySem.W.hideAll_get _ e fun hm => by
    have q : (H b).isSome = true := (List.mem_filter.mp hm).2
    rw [n] at q; simp at q
theorem of_hidT {h : Heap} {H : Hp} {b : Addr} {o : Obj} (e : (hidT h H).get? b = some o) : h.get? b = some o ∧ H b = none := by
  have e' : h.get? b = some o := PySem.W.of_hideAll (trk h H) e
  refine ⟨e', ?_⟩
  cases q : H b with
  | none => rfl
  | some x =>
    have hm : b ∈ trk h H := List.mem_filter.mpr ⟨List.mem_range.mpr (Heap.lt_size e'), by simp [q]⟩
    have z : (hidT h H).get? b = none := PySem.W.hideAll_none (trk h H) hm
    rw [z] at e; cases e

/-! ### OpenK's ledger, filled with every new object but one -/
end L2

namespace L2
open PySem PySem.Spec PyProof.Rows

/-- the module's facts, over the base: the heap at the law's entry without what is tracked there -/
structure Mod (K : PySem.W.Frag) (mg : Str → Option Value) (base : Heap) : Prop where
  kin : K.In base
  glob : base.Ns mainGlobals mg
  blt : ∃ mb, base.Ns builtinsNs mb ∧ ∀ x : Str, x ≠ "__name__" → mb x = bootBuiltins x
  nolimit : base.NoLimit

/-- the context: a def's body (or a comprehension's block) running. base: fixed through the whole law; s₀, H₀: the entry; outer: the frames whose slots others may change (a def's callers); stack: all frames that run;
   ex: iterators that were made ahead of the entry and are walked here (a comprehension's); fn: the names whose cells were made at the entry (a def: all; a comprehension's block: its own); calm: not within an except suite; pn: pins that every state bears; xe: what is wanted of an exception that leaves the code -/
structure Cx where
  prog : Program
  w : World
  K : PySem.W.Frag
  mg : Str → Option Value
  base : Heap
  A : Around
  N : List Str
  s_0 : Shared
  H_0 : Hp
  env : Env
  outer : List Env
  stack : List Env
  ex : List Addr
  fn : Str → Bool
  calm : Bool
  pn : List (Addr × Obj)
  xe : Value → Shared → Prop
/-- the callers' frames -/
def frs (l : List Env) : List Addr := l.filterMap (·.frame)
abbrev Cx.fs (X : Cx) : List Addr := frs X.outer

def Vis (sc : Scope) (x : Str) : Prop := sc.names.lookup x = some .local ∨ sc.names.lookup x = some .cell ∨ sc.names.lookup x = some .free
def Loc (sc : Scope) (x : Str) : Prop := sc.names.lookup x = some .local ∨ sc.names.lookup x = some .cell
def Look (env : Env) (h : Heap) (m : Str → Option Value) (x : Str) (u : Value) : Prop :=
  (env.kindOf x = some .local ∧ m x = some u) ∨ ((env.kindOf x = some .cell ∨ env.kindOf x = some .free) ∧ ∃ c, env.cells.lookup x = some c ∧ h.IsCell c (some u))

structure Cx.Ok (X : Cx) : Prop where
  mod : Mod X.K X.mg X.base
  kind : X.env.scope.kind = .function
  glob : X.env.globals = mainGlobals
  blt : X.env.builtins = builtinsNs
  above : X.s_0.heap.objs.size ≤ X.env.locals
  inj : ∀ x y c, X.env.cells.lookup x = some c → X.env.cells.lookup y = some c → x = y
  has : ∀ x, (X.env.kindOf x = some .cell ∨ X.env.kindOf x = some .free) → ∃ c, X.env.cells.lookup x = some c
  cab : ∀ x c, X.fn x = true → X.env.cells.lookup x = some c → X.s_0.heap.objs.size ≤ c
  hd : X.calm = true → X.A.handled = none
  frames : X.A.frames = some X.stack
  stk : X.stack = X.outer ∨ (X.stack = X.env :: X.outer ∧ X.env.frame = some X.env.locals)
  exf : ∀ b ∈ X.ex, b ≠ X.env.locals ∧ ∀ x c, X.env.cells.lookup x = some c → c ≠ b
  bs : ∀ b o, X.base.get? b = some o → X.s_0.heap.get? b = some o ∧ X.H_0 b = none
  bsz : X.base.objs.size ≤ X.s_0.heap.objs.size
  noex : ∀ b o, X.base.get? b = some o → b ∉ X.ex
  exfs : ∀ b ∈ X.ex, b ∉ X.fs
  funs : X.s_0.heap.FunFrames X.base X.outer
  frf : ∀ b ∈ X.fs, X.H_0 b = none

structure Inv (X : Cx) (pins : List (Addr × Obj)) (σ : List (Option V)) (H : Hp) (s : Shared) : Prop where
  ok : X.Ok
  os : s.os = X.s_0.os
  bare : AllBare s.gens
  base : Un X.fs X.ex X.H_0 H X.s_0.heap s.heap
  loc : ∃ m, s.heap.Ns X.env.locals m ∧ ∀ (i : Nat) (x : Str) (v : V), X.N[i]? = some x → σ[i]? = some (some v) → Vis X.env.scope x → ∃ u, RelV v u ∧ Look X.env s.heap m x u
  cell : ∀ x c, X.env.cells.lookup x = some c → ∃ v, s.heap.IsCell c v
  free : H X.env.locals = none
  freeC : ∀ x c, X.env.cells.lookup x = some c → H c = none
  pin : ∀ p ∈ X.pn ++ pins, s.heap.get? p.1 = some p.2 ∧ H p.1 = none ∧ p.1 ≠ X.env.locals ∧ p.1 ∉ X.fs ∧ ∀ v, p.2.data ≠ .cell v
  hok : HOk X.prog X.w H s.heap
  len : σ.length = X.N.length

section
variable {X : Cx} {pins : List (Addr × Obj)} {σ : List (Option V)} {H H' : Hp} {s : Shared} {h' : Heap}

theorem Cx.Ok.nofr (ok : X.Ok) {b : Addr} {o : Obj} (e : X.base.get? b = some o) : b ∉ X.fs := fun hb => by
  have := (ok.funs.mem hb).1
  rw [e] at this; cases this
theorem Inv.bs (I : Inv X pins σ H s) : ∀ b o, X.base.get? b = some o → s.heap.get? b = some o ∧ H b = none := fun b o e =>
  ⟨I.base.keep b o (I.ok.bs b o e).1 (I.ok.bs b o e).2 (I.ok.nofr e) (I.ok.noex b o e), I.base.free b o (I.ok.bs b o e).1 (I.ok.bs b o e).2 (I.ok.noex b o e)⟩
theorem Inv.bk (I : Inv X pins σ H s) : ∀ b o, X.base.get? b = some o → s.heap.get? b = some o := fun b o e => (I.bs b o e).1
theorem Inv.mod (I : Inv X pins σ H s) : Mod X.K X.mg X.base := I.ok.mod
theorem Inv.kIn (I : Inv X pins σ H s) : X.K.In s.heap := I.ok.mod.kin.keeps I.bk
theorem Inv.lt (I : Inv X pins σ H s) : X.env.locals < s.heap.objs.size := let ⟨_, hn, _⟩ := I.loc; hn.lt
theorem Inv.sz (I : Inv X pins σ H s) : X.s_0.heap.objs.size ≤ s.heap.objs.size := Nat.le_trans I.ok.above (Nat.le_of_lt I.lt)
theorem Inv.nofs (I : Inv X pins σ H s) {a : Addr} (h : s.heap.objs.size ≤ a) : a ∉ X.fs := fun hb => by
  obtain ⟨_, o, ho, _⟩ := I.ok.funs.mem hb
  exact absurd (Nat.lt_of_lt_of_le (Heap.lt_size ho) (Nat.le_trans I.sz h)) (Nat.lt_irrefl _)
theorem Inv.cne (I : Inv X pins σ H s) : ∀ x c, X.env.cells.lookup x = some c → c ≠ X.env.locals := fun x c e z => by
  obtain ⟨v, o, ho, hd⟩ := I.cell x c e
  obtain ⟨m, ⟨o', es, ep, ho', hd', _⟩, _⟩ := I.loc
  rw [z, ho'] at ho; cases ho; rw [hd'] at hd; cases hd
theorem Inv.funs (I : Inv X pins σ H s) : s.heap.FunFrames X.base X.outer := by
  have all : ∀ (l : List Env), (∀ b ∈ frs l, b ∈ X.fs) → X.s_0.heap.FunFrames X.base l → s.heap.FunFrames X.base l := by
    intro l
    induction l with
    | nil => intro _ _; trivial
    | cons env r ih =>
      intro hs hl
      obtain ⟨hk, ⟨L, o, hf, hn, ho, hd⟩, hr⟩ := hl
      have hL : L ∈ X.fs := hs L (by unfold frs; rw [List.filterMap_cons, hf]; exact List.mem_cons_self)
      obtain ⟨sl, e⟩ := I.base.slot L o ho (I.ok.frf L hL) hL fun z => I.ok.exfs L z hL
      exact ⟨hk, ⟨L, _, hf, hn, e, hd⟩, ih (fun b hb => hs b (by unfold frs; rw [List.filterMap_cons, hf]; exact List.mem_cons_of_mem _ hb)) hr⟩
  exact all X.outer (fun _ hb => hb) I.ok.funs

/-- the frames that run, for a call -/
theorem Inv.stack (I : Inv X pins σ H s) : s.heap.FunFrames X.base X.stack := by
  rcases I.ok.stk with e | ⟨e, hf⟩
  · rw [e]; exact I.funs
  · rw [e]
    obtain ⟨m, hn, _⟩ := I.loc
    refine .cons (by rw [I.ok.kind]; decide) hf hn ?_ I.funs
    exact Heap.get?_none_of_le (Nat.le_trans I.ok.bsz I.ok.above)
theorem Inv.stkSub (I : Inv X pins σ H s) : ∀ b ∈ frs X.stack, b ∈ X.env.locals :: X.fs := fun b hb => by
  rcases I.ok.stk with e | ⟨e, hf⟩
  · rw [e] at hb; exact List.mem_cons_of_mem _ hb
  · rw [e] at hb
    unfold frs at hb
    rw [List.filterMap_cons, hf] at hb
    exact hb
theorem Inv.stkFree (I : Inv X pins σ H s) : ∀ b ∈ frs X.stack, H b = none := fun b hb => by
  rcases List.mem_cons.mp (I.stkSub b hb) with e | hb
  · rw [e]; exact I.free
  · obtain ⟨_, o, ho, _⟩ := I.ok.funs.mem hb
    exact I.base.free b o ho (I.ok.frf b hb) fun z => I.ok.exfs b z hb

/-- THE STEP: the untracked objects but the frame and the records at ch are kept (the callers' frames up to slots), the frame's map is kept, the new abstract heap is held -/
theorem Inv.step {g' : Array GenState} {t' : Nat} {d' : Drawn} {ch : List Addr} (I : Inv X pins σ H s)
    (hch : ∀ b ∈ ch, (b ∈ X.ex ∨ X.s_0.heap.objs.size ≤ b) ∧ b ≠ X.env.locals ∧ (∀ x c, X.env.cells.lookup x = some c → c ≠ b) ∧ ∀ p ∈ X.pn ++ pins, p.1 ≠ b)
    (keep : ∀ b o, b ≠ X.env.locals → b ∉ X.fs → b ∉ ch → s.heap.get? b = some o → H b = none → h'.get? b = some o)
    (slot : ∀ b o, b ≠ X.env.locals → b ∈ X.fs → b ∉ ch → s.heap.get? b = some o → H b = none → ∃ sl, h'.get? b = some { o with slots := sl }) (free : ∀ b o, b ∉ ch → s.heap.get? b = some o → H b = none → H' b = none)
    (there : ∀ b o, b ∉ ch → s.heap.get? b = some o → ∃ o', h'.get? b = some o')
    (tups : ∀ b xs, H b = some (.tup xs) → H' b = some (.tup xs)) (frzs : ∀ b o u, H b = some (.frz o u) → H' b = some (.frz o u)) (tbls : ∀ b ps, H b = some (.tbl ps) → ∃ more, H' b = some (.tbl (ps ++ more)))
    (ns : ∀ m, s.heap.Ns X.env.locals m → h'.Ns X.env.locals m) (hok : HOk X.prog X.w H' h') (hg : AllBare g') :
    Inv X pins σ H' { s with heap := h', gens := g', drawn := d', toks := t' } := by
  have neL : ∀ b o, X.s_0.heap.get? b = some o → b ≠ X.env.locals := fun b o e => Nat.ne_of_lt (Nat.lt_of_lt_of_le (Heap.lt_size e) I.ok.above)
  have neC : ∀ b o, X.s_0.heap.get? b = some o → b ∉ X.ex → b ∉ ch := fun b o e hx hb => by
    rcases (hch b hb).1 with z | z
    · exact hx z
    · exact absurd (Nat.lt_of_lt_of_le (Heap.lt_size e) z) (Nat.lt_irrefl _)
  have cellK : ∀ x c, X.env.cells.lookup x = some c → ∀ v, s.heap.IsCell c v → h'.IsCell c v := fun x c e v ⟨o, ho, hd⟩ => by
    have nch : c ∉ ch := fun z => (hch c z).2.2.1 x c e rfl
    by_cases hc : c ∈ X.fs
    · obtain ⟨sl, q⟩ := slot c o (I.cne x c e) hc nch ho (I.freeC x c e)
      exact ⟨_, q, hd⟩
    · exact ⟨o, keep c o (I.cne x c e) hc nch ho (I.freeC x c e), hd⟩
  refine ⟨I.ok, I.os, hg, ⟨fun b o e n hb hx => ?_, fun b o e n hb hx => ?_, fun b o e n hx => ?_, fun b o e hx => ?_, fun b xs e => tups b xs (I.base.tups b xs e), fun b o xs e => frzs b o xs (I.base.frzs b o xs e), fun b ps e => ?_⟩, ?_, fun x c e => ?_, ?_, fun x c e => ?_, fun p hp => ?_, hok, I.len⟩
  · exact keep b o (neL b o e) hb (neC b o e hx) (I.base.keep b o e n hb hx) (I.base.free b o e n hx)
  · obtain ⟨sl, e1⟩ := I.base.slot b o e n hb hx
    obtain ⟨sl', e2⟩ := slot b _ (neL b o e) hb (neC b o e hx) e1 (I.base.free b o e n hx)
    exact ⟨sl', e2⟩
  · obtain ⟨o', e1⟩ := I.base.there b o e hx
    exact free b o' (neC b o e hx) e1 (I.base.free b o e n hx)
  · obtain ⟨o', e1⟩ := I.base.there b o e hx
    exact there b o' (neC b o e hx) e1
  · obtain ⟨m1, e1⟩ := I.base.tbls b ps e
    obtain ⟨m2, e2⟩ := tbls b _ e1
    exact ⟨m1 ++ m2, by rw [e2, Array.append_assoc]⟩
  · obtain ⟨m, hn, hl⟩ := I.loc
    refine ⟨m, ns m hn, fun i x v e1 e2 e3 => ?_⟩
    obtain ⟨u, r, l⟩ := hl i x v e1 e2 e3
    refine ⟨u, r, ?_⟩
    rcases l with l | ⟨k, c, e, z⟩
    · exact .inl l
    · exact .inr ⟨k, c, e, cellK x c e _ z⟩
  · obtain ⟨v, z⟩ := I.cell x c e
    exact ⟨v, cellK x c e v z⟩
  · obtain ⟨m, ⟨o, _, _, ho, _⟩, _⟩ := I.loc
    exact free _ o (fun z => (hch _ z).2.1 rfl) ho I.free
  · obtain ⟨v, o, ho, hd⟩ := I.cell x c e
    exact free c o (fun z => (hch c z).2.2.1 x c e rfl) ho (I.freeC x c e)
  · obtain ⟨e, n, ne, nf, d⟩ := I.pin p hp
    have nch : p.1 ∉ ch := fun z => (hch p.1 z).2.2.2 p hp rfl
    exact ⟨keep p.1 p.2 ne nf nch e n, free p.1 p.2 nch e n, ne, nf, d⟩
/-- .. where the frame's own object is kept too -/
theorem Inv.un {t' : Nat} (I : Inv X pins σ H s) (u : Un X.fs [] H H' s.heap h') (hok : HOk X.prog X.w H' h') : Inv X pins σ H' { s with heap := h', toks := t' } := by
  obtain ⟨m, ⟨o, es, ep, ho, r⟩, _⟩ := id I.loc
  obtain ⟨sl, hL⟩ := u.any ho I.free (by simp)
  exact I.step (g' := s.gens) (d' := s.drawn) (ch := []) (fun _ z => nomatch z) (fun b o _ hb _ e n => u.keep b o e n hb (by simp)) (fun b o _ hb _ e n => u.slot b o e n hb (by simp)) (fun b o _ e n => u.free b o e n (by simp)) (fun b o _ e => u.there b o e (by simp)) u.tups u.frzs u.tbls (fun m' hm => by
    obtain ⟨o', es', ep', ho', r'⟩ := hm
    rw [ho] at ho'; cases ho'
    exact ⟨_, es', ep', hL, r'⟩) hok I.bare
/-- behind a call (or a comprehension's block): the slots of this frame may have changed too, the records at ch may have turned -/
theorem Inv.call {g' : Array GenState} {t' : Nat} {d' : Drawn} {ch : List Addr} (I : Inv X pins σ H s) (u : Un (frs X.stack) ch H H' s.heap h') (hok : HOk X.prog X.w H' h') (hg : AllBare g')
    (hch : ∀ b ∈ ch, (b ∈ X.ex ∨ X.s_0.heap.objs.size ≤ b) ∧ b ≠ X.env.locals ∧ (∀ x c, X.env.cells.lookup x = some c → c ≠ b) ∧ ∀ p ∈ X.pn ++ pins, p.1 ≠ b) :
    Inv X pins σ H' { s with heap := h', gens := g', drawn := d', toks := t' } := by
  obtain ⟨m, ⟨o, es, ep, ho, r⟩, _⟩ := id I.loc
  obtain ⟨sl, hL⟩ := u.any ho I.free fun z => (hch _ z).2.1 rfl
  exact I.step (ch := ch) hch (fun b o hL hb hc e n => u.keep b o e n (fun z => (List.mem_cons.mp (I.stkSub b z)).elim hL hb) hc) (fun b o _ _ hc e n => u.any e n hc) (fun b o hc e n => u.free b o e n hc) (fun b o hc e => u.there b o e hc) u.tups u.frzs u.tbls (fun m' hm => by
    obtain ⟨o', es', ep', ho', r'⟩ := hm
    rw [ho] at ho'; cases ho'
    exact ⟨_, es', ep', hL, r'⟩) hok hg
/-- an untracked record of ours (an iterator) has turned -/
theorem Inv.turned {t' : Nat} {it : Addr} (I : Inv X pins σ H s) (k : ∀ b o, b ≠ it → s.heap.get? b = some o → h'.get? b = some o) (hn : H it = none) (hL : it ≠ X.env.locals)
    (h1 : it ∈ X.ex ∨ X.s_0.heap.objs.size ≤ it) (h2 : ∀ x c, X.env.cells.lookup x = some c → c ≠ it) (h3 : ∀ p ∈ X.pn ++ pins, p.1 ≠ it) : Inv X pins σ H { s with heap := h', toks := t' } := by
  have nit : ∀ b u, H b = some u → b ≠ it := fun b u e z => by rw [z, hn] at e; cases e
  refine I.step (g' := s.gens) (d' := s.drawn) (ch := [it]) (fun b hb => ?_) (fun b o _ _ hc e _ => k b o (fun z => hc (by simp [z])) e) (fun b o _ _ hc e _ => ⟨o.slots, k b o (fun z => hc (by simp [z])) e⟩) (fun _ _ _ _ n => n)
    (fun b o hc e => ⟨o, k b o (fun z => hc (by simp [z])) e⟩) (fun _ _ e => e) (fun _ _ _ e => e) (fun b ps e => ⟨#[], by rw [e]; simp⟩) (fun m hm => ?_) (fun b u e => ?_) I.bare
  · have e : b = it := by simpa using hb
    subst e
    exact ⟨h1, hL, h2, h3⟩
  · obtain ⟨o, es, ep, ho, r⟩ := hm
    exact ⟨o, es, ep, k _ o (Ne.symm hL) ho, r⟩
  · refine (I.hok b u e).stay (fun c v hc q => k c v ?_ q) (fun _ q => q) fun _ _ q => q
    rcases hc with z | z
    · rw [z]; exact nit b u e
    · exact nit c _ z
theorem Inv.tok (I : Inv X pins σ H s) (t : Nat) : Inv X pins σ H { s with toks := t } := I.un (h' := s.heap) (t' := t) Un.refl I.hok
/-- all objects kept -/
theorem Inv.kept {t' : Nat} (I : Inv X pins σ H s) (k : ∀ b u, s.heap.get? b = some u → h'.get? b = some u) : Inv X pins σ H { s with heap := h', toks := t' } := I.un (Un.kept k) (I.hok.kept k)
/-- a new object laid and tracked -/
theorem Inv.laid {a : Addr} {o : HO} {t' : Nat} (I : Inv X pins σ H s) (k : ∀ b u, s.heap.get? b = some u → h'.get? b = some u) (hp : s.heap.objs.size ≤ a) (new : ObjOk X.prog X.w (upd H a o) h' a o) :
    Inv X pins σ (upd H a o) { s with heap := h', toks := t' } := I.un (Un.laid k hp (I.hok.fresh hp)) (I.hok.laid k hp new)
/-- an object written -/
theorem Inv.write {x e : Addr} {o : HO} {t' : Nat} (I : Inv X pins σ H s) (mu : Mut (H x)) (he : e = x ∨ H e = some (.own x)) (k : ∀ b u, b ≠ e → s.heap.get? b = some u → h'.get? b = some u) (heo : ∃ u, h'.get? e = some u)
    (new : ObjOk X.prog X.w (upd H x o) h' x o) : Inv X pins σ (upd H x o) { s with heap := h', toks := t' } := I.un (Un.write mu he k heo) (I.hok.write mu he k heo new)
/-- forgetting slots, pins -/
theorem Inv.weak {σ' : List (Option V)} (I : Inv X pins σ H s) (hl : σ'.length = σ.length) (w : ∀ (i : Nat) v, σ'[i]? = some (some v) → σ[i]? = some (some v)) : Inv X pins σ' H s :=
  ⟨I.ok, I.os, I.bare, I.base, let ⟨m, hn, hl'⟩ := I.loc; ⟨m, hn, fun i x v e1 e2 e3 => hl' i x v e1 (w i v e2) e3⟩, I.cell, I.free, I.freeC, I.pin, I.hok, hl.trans I.len⟩
theorem Inv.pins_of {pins' : List (Addr × Obj)} (I : Inv X pins σ H s) (h : ∀ p ∈ pins', s.heap.get? p.1 = some p.2 ∧ H p.1 = none ∧ p.1 ≠ X.env.locals ∧ p.1 ∉ X.fs ∧ ∀ v, p.2.data ≠ .cell v) : Inv X pins' σ H s :=
  ⟨I.ok, I.os, I.bare, I.base, I.loc, I.cell, I.free, I.freeC, fun p hp => (List.mem_append.mp hp).elim (fun z => I.pin p (List.mem_append_left _ z)) (h p), I.hok, I.len⟩

theorem nodup_ix {N : List Str} (hN : N.Nodup) {i j : Nat} {x : Str} (a : N[i]? = some x) (b : N[j]? = some x) : i = j := by
  obtain ⟨h1, e1⟩ := List.getElem?_eq_some_iff.mp a
  obtain ⟨h2, e2⟩ := List.getElem?_eq_some_iff.mp b
  exact (List.getElem_inj hN).mp (e1.trans e2.symm)

/-- a name is stored; what changed -/
theorem store_ok2 {M : Model} {A : Around} {E : Value → Shared → Prop} {i : Nat} {x : Str} {v : V} {u : Value} {Q : Unit → Shared → Prop} (I : Inv X pins σ H s) (hN : X.N.Nodup) (hi : X.N[i]? = some x) (hx : Loc X.env.scope x) (r : RelV v u)
    (h : ∀ s', Inv X pins (σ.set i (some v)) H s' → (∃ a, Heap.SameBut a s.heap s'.heap ∧ (a = X.env.locals ∨ X.env.cells.lookup x = some a)) → Q () s') (hf : X.fn x = true ∨ X.env.scope.names.lookup x = some .local := by first | exact .inl rfl | exact .inr rfl | assumption) : wpAny M A (storeName X.env x u) Q E s := by
  obtain ⟨m, hn, hl⟩ := id I.loc
  have hcls : (X.env.scope.kind == .class || (X.env.scope.kind == .module && X.env.locals != X.env.globals)) = false := by rw [I.ok.kind]; rfl
  have hiσ : i < σ.length := by rw [I.len]; exact (List.getElem?_eq_some_iff.mp hi).1
  have cne := I.cne
  have tracked : ∀ {a : Addr} {h' : Heap}, (∃ o, s.heap.get? a = some o ∧ H a = none) → Heap.SameBut a s.heap h' → HOk X.prog X.w H h' := fun {a h'} ha hs b ob e => by
    obtain ⟨_, _, hfree⟩ := ha
    refine (I.hok b ob e).stay (fun c w' hc q => (hs.2 c ?_).trans q) (fun _ q => q) fun _ _ q => q
    rintro rfl
    rcases hc with rfl | hc
    · rw [hfree] at e; cases e
    · rw [hfree] at hc; cases hc
  rcases hx with hk | hk
  · refine wpAny_storeName_local hk hn (fun h' hn' hs => ?_) hcls
    obtain ⟨oL, _, _, hoL, _⟩ := id hn
    refine h _ ⟨I.ok, I.os, I.bare, ⟨fun b o e n hb hx => ?_, fun b o e n hb hx => ?_, I.base.free, fun b o e hx => ?_, I.base.tups, I.base.frzs, I.base.tbls⟩, ⟨_, hn', fun j y v' e1 e2 e3 => ?_⟩, fun y c e => ?_, I.free, I.freeC, fun p hp => ?_, tracked ⟨oL, hoL, I.free⟩ hs, by simpa using I.len⟩ ⟨_, hs, .inl rfl⟩
    · exact (hs.2 b (Nat.ne_of_lt (Nat.lt_of_lt_of_le (Heap.lt_size e) I.ok.above))).trans (I.base.keep b o e n hb hx)
    · obtain ⟨sl, e1⟩ := I.base.slot b o e n hb hx
      exact ⟨sl, (hs.2 b (Nat.ne_of_lt (Nat.lt_of_lt_of_le (Heap.lt_size e) I.ok.above))).trans e1⟩
    · obtain ⟨o', e1⟩ := I.base.there b o e hx
      exact ⟨o', (hs.2 b (Nat.ne_of_lt (Nat.lt_of_lt_of_le (Heap.lt_size e) I.ok.above))).trans e1⟩
    · by_cases hj : j = i
      · subst hj
        rw [hi] at e1; cases e1
        rw [List.getElem?_set_self hiσ] at e2
        cases e2
        exact ⟨u, r, .inl ⟨hk, by simp⟩⟩
      · rw [List.getElem?_set_ne (Ne.symm hj)] at e2
        obtain ⟨u', r', q⟩ := hl j y v' e1 e2 e3
        refine ⟨u', r', ?_⟩
        rcases q with ⟨k, e⟩ | ⟨k, c, e, z⟩
        · refine .inl ⟨k, ?_⟩
          have : y ≠ x := fun e => hj (nodup_ix hN e1 (e ▸ hi))
          simp [this, e]
        · exact .inr ⟨k, c, e, z.sameBut hs (cne y c e)⟩
    · obtain ⟨w', z⟩ := I.cell y c e
      exact ⟨w', z.sameBut hs (cne y c e)⟩
    · obtain ⟨e, n, ne, nf, d⟩ := I.pin p hp
      exact ⟨(hs.2 p.1 ne).trans e, n, ne, nf, d⟩
  · have hfn : X.fn x = true := by
      rcases hf with z | z
      · exact z
      · rw [z] at hk; cases hk
    obtain ⟨c, hc⟩ := I.ok.has x (.inl hk)
    obtain ⟨w', z⟩ := I.cell x c hc
    refine wpAny_storeName_cell I.ok.kind hk hc z (fun h' hc' hs => ?_)
    obtain ⟨oc, hoc, hocd⟩ := id z
    refine h { s with heap := h' } ⟨I.ok, I.os, I.bare, ⟨fun b o e n hb hx => ?_, fun b o e n hb hx => ?_, I.base.free, fun b o e hx => ?_, I.base.tups, I.base.frzs, I.base.tbls⟩, ⟨m, hn.sameBut hs (Ne.symm (cne x c hc)), fun j y v' e1 e2 e3 => ?_⟩, fun y c' e => ?_, I.free, I.freeC, fun p hp => ?_, tracked ⟨oc, hoc, I.freeC x c hc⟩ hs, by simpa using I.len⟩ ⟨c, hs, .inr hc⟩
    · exact (hs.2 b (Nat.ne_of_lt (Nat.lt_of_lt_of_le (Heap.lt_size e) (I.ok.cab x c hfn hc)))).trans (I.base.keep b o e n hb hx)
    · obtain ⟨sl, e1⟩ := I.base.slot b o e n hb hx
      exact ⟨sl, (hs.2 b (Nat.ne_of_lt (Nat.lt_of_lt_of_le (Heap.lt_size e) (I.ok.cab x c hfn hc)))).trans e1⟩
    · obtain ⟨o', e1⟩ := I.base.there b o e hx
      exact ⟨o', (hs.2 b (Nat.ne_of_lt (Nat.lt_of_lt_of_le (Heap.lt_size e) (I.ok.cab x c hfn hc)))).trans e1⟩
    · by_cases hj : j = i
      · subst hj
        rw [hi] at e1; cases e1
        rw [List.getElem?_set_self hiσ] at e2
        cases e2
        exact ⟨u, r, .inr ⟨.inl hk, c, hc, hc'⟩⟩
      · rw [List.getElem?_set_ne (Ne.symm hj)] at e2
        obtain ⟨u', r', q⟩ := hl j y v' e1 e2 e3
        refine ⟨u', r', ?_⟩
        rcases q with q | ⟨k, c', e, z'⟩
        · exact .inl q
        · refine .inr ⟨k, c', e, z'.sameBut hs ?_⟩
          rintro rfl
          exact hj (nodup_ix hN e1 (I.ok.inj _ _ _ e hc ▸ hi))
    · by_cases hcc : c' = c
      · subst hcc; exact ⟨_, hc'⟩
      · obtain ⟨w2, z2⟩ := I.cell y c' e
        exact ⟨w2, z2.sameBut hs hcc⟩
    · obtain ⟨e, n, ne, nf, d⟩ := I.pin p hp
      refine ⟨(hs.2 p.1 ?_).trans e, n, ne, nf, d⟩
      intro q
      rw [q, hoc] at e
      have q' : oc = p.2 := Option.some.inj e
      exact d w' (by rw [← q']; exact hocd)
theorem store_ok {M : Model} {A : Around} {E : Value → Shared → Prop} {i : Nat} {x : Str} {v : V} {u : Value} {Q : Unit → Shared → Prop} (I : Inv X pins σ H s) (hN : X.N.Nodup) (hi : X.N[i]? = some x) (hx : Loc X.env.scope x) (r : RelV v u)
    (h : ∀ s', Inv X pins (σ.set i (some v)) H s' → Q () s') (hf : X.fn x = true ∨ X.env.scope.names.lookup x = some .local := by first | exact .inl rfl | exact .inr rfl | assumption) : wpAny M A (storeName X.env x u) Q E s :=
  store_ok2 I hN hi hx r (fun s' I' _ => h s' I') hf
/-- behind a call or a block, the state as it is -/
theorem Inv.call' {s' : Shared} {ch : List Addr} (I : Inv X pins σ H s) (ho : s'.os = s.os) (u : Un (frs X.stack) ch H H' s.heap s'.heap) (hok : HOk X.prog X.w H' s'.heap) (hg : AllBare s'.gens)
    (hch : ∀ b ∈ ch, (b ∈ X.ex ∨ X.s_0.heap.objs.size ≤ b) ∧ b ≠ X.env.locals ∧ (∀ x c, X.env.cells.lookup x = some c → c ≠ b) ∧ ∀ p ∈ X.pn ++ pins, p.1 ≠ b) : Inv X pins σ H' s' := by
  obtain ⟨h', g', d', t', o'⟩ := s'
  have e : o' = s.os := ho
  subst e
  exact I.call (g' := g') (t' := t') (d' := d') u hok hg hch
end

/-! ### the judgements -/
/-- an exception: its class, its own dict's address (where it has one), the abstract heap behind it -/
abbrev XK := Value → Option Addr → Hp → Prop
abbrev St := List (Option V)
abbrev VK := V → Hp → Prop
/-- an expression's reading; a test's; an argument list's -/
abbrev TE := St → Hp → VK → Prop
abbrev TT := St → Hp → (Bool → Hp → Prop) → Prop
abbrev TA := St → Hp → (List V → Hp → Prop) → Prop
/-- what is wanted behind a statement -/
structure Ends where
  nx : St → Hp → Prop
  rt : VK
  bk : St → Hp → Prop := fun _ _ => False
  ct : St → Hp → Prop := fun _ _ => False
abbrev TS := Ends → St → Hp → Prop

def EP (X : Cx) (pins : List (Addr × Obj)) (σ : St) (Q : VK) (u : Value) (s' : Shared) : Prop := ∃ v H', Inv X pins σ H' s' ∧ RelV v u ∧ Q v H'
def TP (X : Cx) (pins : List (Addr × Obj)) (σ : St) (Q : Bool → Hp → Prop) (b : Bool) (s' : Shared) : Prop := ∃ H', Inv X pins σ H' s' ∧ Q b H'
def AP (X : Cx) (pins : List (Addr × Obj)) (σ : St) (Q : List V → Hp → Prop) (us : List Value) (s' : Shared) : Prop := ∃ vs H', Inv X pins σ H' s' ∧ Vals vs us ∧ Q vs H'
def SP (X : Cx) (pins : List (Addr × Obj)) (D : Ends) (f : Flow) (s' : Shared) : Prop :=
  match f with
  | .next => ∃ σ' H', Inv X pins σ' H' s' ∧ D.nx σ' H'
  | .brk => ∃ σ' H', Inv X pins σ' H' s' ∧ D.bk σ' H'
  | .cont => ∃ σ' H', Inv X pins σ' H' s' ∧ D.ct σ' H'
  | .ret u => ∃ v σ' H', Inv X pins σ' H' s' ∧ RelV v u ∧ D.rt v H'

def PE (X : Cx) (e : Expr) (t : TE) : Prop :=
  ∀ (pins : List (Addr × Obj)) (s : Shared) (σ : St) (H : Hp) (Q : VK), Inv X pins σ H s → t σ H Q → wpAny (model X.prog X.w) X.A (eval e X.env) (EP X pins σ Q) X.xe s
def PT (X : Cx) (e : Expr) (t : TT) : Prop :=
  ∀ (pins : List (Addr × Obj)) (s : Shared) (σ : St) (H : Hp) (Q : Bool → Hp → Prop), Inv X pins σ H s → t σ H Q → wpAny (model X.prog X.w) X.A (isTrue e X.env (eval e X.env)) (TP X pins σ Q) X.xe s
/-- a test whatever its 'whole' is (and, or) -/
def PW (X : Cx) (e : Expr) (t : TT) : Prop :=
  ∀ (whole : Sem Value) (pins : List (Addr × Obj)) (s : Shared) (σ : St) (H : Hp) (Q : Bool → Hp → Prop), Inv X pins σ H s → t σ H Q → wpAny (model X.prog X.w) X.A (isTrue e X.env whole) (TP X pins σ Q) X.xe s
theorem PW.pt {X : Cx} {e : Expr} {t : TT} (h : PW X e t) : PT X e t := h _
/-- an argument list (no star), from the left -/
def PA (X : Cx) (es : List Expr) (t : TA) : Prop :=
  ∀ (pos : Pos) (pins : List (Addr × Obj)) (s : Shared) (σ : St) (H : Hp) (Q : List V → Hp → Prop), Inv X pins σ H s → t σ H Q → wpAny (model X.prog X.w) X.A (spliced (backTo pos (starEach es X.env))) (AP X pins σ Q) X.xe s
def PS (X : Cx) (st : Stmt) (t : TS) : Prop :=
  ∀ (pins : List (Addr × Obj)) (s : Shared) (σ : St) (H : Hp) (D : Ends), Inv X pins σ H s → t D σ H → wpAny (model X.prog X.w) X.A (exec st X.env) (SP X pins D) X.xe s
def PSs (X : Cx) (st : List Stmt) (t : TS) : Prop :=
  ∀ (pins : List (Addr × Obj)) (s : Shared) (σ : St) (H : Hp) (D : Ends), Inv X pins σ H s → t D σ H → wpAny (model X.prog X.w) X.A (execs st X.env) (SP X pins D) X.xe s
/-- weaken the end -/
theorem thn {α : Type} {t : Sem α} {Q Q' : α → Shared → Prop} {M : Model} {A : Around} {E : Value → Shared → Prop} {s : Shared} (h : wpAny M A t Q E s) (hQ : ∀ a s, Q a s → Q' a s) : wpAny M A t Q' E s := wpAny_mono h hQ fun _ _ x => x
end L2

namespace L2
open PySem PySem.Spec PyProof.Rows
section
variable {X : Cx}

/-! ### names and constants -/
def tVar (i : Nat) : TE := fun σ H Q => ∃ v, σ[i]? = some (some v) ∧ Q v H
def tC (v : V) : TE := fun _ H Q => Q v H
theorem pe_var {i : Nat} {x : Str} {pos : Pos} (hN : X.N[i]? = some x) (hv : Vis X.env.scope x) (hd : (x == ("__debug__" : Str)) = false := by decide) (hcd : (x == ("__classdict__" : Str)) = false := by decide) : PE X (.Name x pos) (tVar i) := by
  intro pins s σ H Q I h
  obtain ⟨v, e, h⟩ := h
  obtain ⟨m, hn, hl⟩ := I.loc
  obtain ⟨u, r, l⟩ := hl i x v hN e hv
  have fin : EP X pins σ Q u s := ⟨v, H, I, r, h⟩
  rcases l with ⟨hk, hm⟩ | ⟨hk, c, hc, hcell⟩
  · exact wpAny_Name (wpAny_loadName_local I.ok.kind hk hn hm fin) hd
  · rcases hk with hk | hk
    · exact wpAny_Name (wpAny_loadName_cell I.ok.kind hk hc hcell fin) hd
    · exact wpAny_Name (wpAny_loadName_free I.ok.kind hk hc hcell fin hcd) hd
theorem pe_int {i j pos} : PE X (.Constant (.int i) j pos) (tC (.int i)) := fun _ _ _ H _ I h => wpAny_Constant_int ⟨.int i, H, I.tok _, ⟨_, rfl⟩, h⟩
theorem pe_bl {b j pos} : PE X (.Constant (.bool b) j pos) (tC (.bl b)) := fun _ _ _ H _ I h => Constant_bool ⟨.bl b, H, I, rfl, h⟩
/-- a global name of the def -/
def Gl (X : Cx) (x : Str) : Prop := X.env.kindOf x = some .globalImplicit
theorem ld_glob {E : Value → Shared → Prop} {pins : List (Addr × Obj)} {s : Shared} {σ : St} {H : Hp} {x : Str} {u : Value} {pos : Pos} {Q : Value → Shared → Prop} (I : Inv X pins σ H s) (hg : Gl X x) (hm : X.mg x = some u) (h : Q u s)
    (hd : (x == ("__debug__" : Str)) = false := by decide) : wpAny (model X.prog X.w) X.A (eval (.Name x pos) X.env) Q E s :=
  Calls.Name_function_global I.ok.kind hg (Calls.loadGlobal_global (by rw [I.ok.glob]; exact I.mod.glob.keeps I.bk) hm h) hd
theorem ld_blt {E : Value → Shared → Prop} {pins : List (Addr × Obj)} {s : Shared} {σ : St} {H : Hp} {x : Str} {u : Value} {pos : Pos} {Q : Value → Shared → Prop} (I : Inv X pins σ H s) (hg : Gl X x) (hm : X.mg x = none) (hv : bootBuiltins x = some u) (h : Q u s)
    (hn : x ≠ "__name__" := by decide) (hd : (x == ("__debug__" : Str)) = false := by decide) : wpAny (model X.prog X.w) X.A (eval (.Name x pos) X.env) Q E s := by
  obtain ⟨mb, h1, h2⟩ := I.mod.blt
  exact Calls.Name_function_global I.ok.kind hg (Calls.loadGlobal_builtin (by rw [I.ok.glob]; exact I.mod.glob.keeps I.bk) hm (by rw [I.ok.blt]; exact h1.keeps I.bk) ((h2 x hn).trans hv) h) hd
/-- a module's constant, a class, a function, as a value -/
theorem pe_glob {x : Str} {v : V} {u : Value} {pos : Pos} (hg : Gl X x) (hm : X.mg x = some u) (r : RelV v u) (hd : (x == ("__debug__" : Str)) = false := by decide) : PE X (.Name x pos) (tC v) :=
  fun _ _ _ H _ I h => ld_glob I hg hm ⟨v, H, I, r, h⟩ hd
/-! ### arithmetic -/
variable {a b : Expr} {ta tb : TE} {pos : Pos}
/-! ### comparisons -/
/-- a comparison as a value, as a test -/
def tB (t : TE) : TT := fun σ H Q => t σ H fun x H1 => ∃ c, x = .bl c ∧ Q c H1
/-- an expression whose value is a bool, as a test -/
theorem pt_val {e : Expr} {t : TE} (h : PE X e t) (he : ∀ whole, isTrue e X.env whole = (do let v ← whole; standAt e.pos; holding [v] (truthy v)) := by intro _; rfl) : PT X e (tB t) := by
  intro pins s σ H Q I hw
  refine isTrue_plain (thn (h pins s σ H _ I hw) fun v s1 ⟨x, H1, I1, r1, q1⟩ => ?_) (he _)
  obtain ⟨d, rfl, q⟩ := q1
  cases r1
  exact wpAny_truthy_bool ⟨H1, I1, q⟩

/-! ### and, or, not -/
variable {tA tB' : TT} {rest : List Expr}
def tAnd (t u : TT) : TT := fun σ H Q => t σ H fun c H1 => if c = true then u σ H1 Q else Q false H1
def tOr (t u : TT) : TT := fun σ H Q => t σ H fun c H1 => if c = true then Q true H1 else u σ H1 Q
def tNot (t : TT) : TT := fun σ H Q => t σ H fun c H1 => Q (!c) H1
theorem pw_and1 (ha : PT X a tA) : PW X (.BoolOp .And [a] pos) tA := by
  intro wh pins s σ H Q I h
  refine isTrue_and (thn (ha pins s σ H Q I h) fun c s1 e => ?_)
  cases c with
  | true => exact isTrue_and_nil e
  | false => exact e
theorem pw_or1 (ha : PT X a tA) : PW X (.BoolOp .Or [a] pos) tA := by
  intro wh pins s σ H Q I h
  refine isTrue_or (thn (ha pins s σ H Q I h) fun c s1 e => ?_)
  cases c with
  | false => exact isTrue_or_nil e
  | true => exact e
theorem pw_and (ha : PT X a tA) (hb : PW X (.BoolOp .And (b :: rest) pos) tB') : PW X (.BoolOp .And (a :: b :: rest) pos) (tAnd tA tB') := by
  intro wh pins s σ H Q I h
  refine isTrue_and (thn (ha pins s σ H _ I h) fun c s1 ⟨H1, I1, q1⟩ => ?_)
  cases c with
  | true => exact hb wh pins s1 σ H1 Q I1 q1
  | false => exact ⟨H1, I1, q1⟩
theorem pw_or (ha : PT X a tA) (hb : PW X (.BoolOp .Or (b :: rest) pos) tB') : PW X (.BoolOp .Or (a :: b :: rest) pos) (tOr tA tB') := by
  intro wh pins s σ H Q I h
  refine isTrue_or (thn (ha pins s σ H _ I h) fun c s1 ⟨H1, I1, q1⟩ => ?_)
  cases c with
  | true => exact ⟨H1, I1, q1⟩
  | false => exact hb wh pins s1 σ H1 Q I1 q1
theorem pt_not (ha : PT X a tA) : PT X (.UnaryOp .Not a pos) (tNot tA) := by
  intro pins s σ H Q I h
  exact isTrue_not (ha pins s σ H (fun c H1 => Q (!c) H1) I h)
/-- .. as values (bools) -/
def tAndV (ta tb : TE) : TE := fun σ H Q => ta σ H fun x H1 => ∃ c, x = .bl c ∧ if c = true then tb σ H1 Q else Q (.bl false) H1
def tNotV (ta : TE) : TE := fun σ H Q => ta σ H fun x H1 => ∃ c, x = .bl c ∧ Q (.bl (!c)) H1
theorem pe_one {op} {t : TE} (h : PE X a t) : PE X (.BoolOp op [a] pos) t := fun pins s σ H Q I hw => BoolOp_one (h pins s σ H Q I hw)
theorem pe_and (ha : PE X a ta) (hb : PE X (.BoolOp .And (b :: rest) pos) tb) : PE X (.BoolOp .And (a :: b :: rest) pos) (tAndV ta tb) := by
  intro pins s σ H Q I h
  refine BoolOp_and (thn (ha pins s σ H _ I h) fun v s1 ⟨x, H1, I1, r1, q1⟩ => ?_)
  obtain ⟨c, rfl, q1⟩ := q1
  cases r1
  refine wpAny_truthy_bool ?_
  cases c with
  | true => exact hb pins s1 σ H1 Q I1 q1
  | false => exact ⟨.bl false, H1, I1, rfl, q1⟩
theorem pe_not (ha : PE X a ta) : PE X (.UnaryOp .Not a pos) (tNotV ta) := by
  intro pins s σ H Q I h
  refine UnaryOp_ (thn (ha pins s σ H _ I h) fun v s1 ⟨x, H1, I1, r1, q1⟩ => ?_)
  obtain ⟨c, rfl, q1⟩ := q1
  cases r1
  exact not_of (wpAny_truthy_bool ⟨.bl (!c), H1, I1, rfl, q1⟩)
/-- a if t else b -/
def tIf (t : TT) (ta tb : TE) : TE := fun σ H Q => t σ H fun c H1 => if c = true then ta σ H1 Q else tb σ H1 Q
theorem pe_ifExp {c : Expr} (hc : PT X c tA) (ha : PE X a ta) (hb : PE X b tb) : PE X (.IfExp c a b pos) (tIf tA ta tb) := by
  intro pins s σ H Q I h
  refine wpAny_IfExp (thn (hc pins s σ H _ I h) fun d s1 ⟨H1, I1, q1⟩ => ?_)
  cases d with
  | true => exact ha pins s1 σ H1 Q I1 q1
  | false => exact hb pins s1 σ H1 Q I1 q1
end
end L2

namespace L2
open PySem PySem.Spec PyProof.Rows

/-! ### a list, a tuple that is read: tracked, frozen, or an object of the module -/
def SqL (K : PySem.W.Frag) (H : Hp) (a : Addr) (xs : List V) : Prop :=
  Rd H a (.lst xs) ∨
    ∃ (o : Obj) (its : Array Value) (n : Nat), K.lookup a = some o ∧ o.cls = .type "list" ∧ o.dict = none ∧ o.data = .seq its n ∧ its.size ≤ sizeLine ∧ Vals xs its.toList
def SqT (K : PySem.W.Frag) (H : Hp) (a : Addr) (xs : List V) : Prop :=
  Rd H a (.tup xs) ∨
    ∃ (o : Obj) (its : Array Value) (n : Nat), K.lookup a = some o ∧ o.cls = .type "tuple" ∧ o.data = .seq its n ∧ its.size ≤ sizeLine ∧ Vals xs its.toList
def absV : Value → Option V
  | .none => some .non
  | .bool b => some (.bl b)
  | .int i _ => some (.int i)
  | .str x _ => some (.str x)
  | .bytes b _ => some (.byt b)
  | .float b _ => some (.flt b)
  | .ref a => some (.ref a)
  | .type n => some (.ty n)
  | _ => none
theorem RelV.abs {x : V} {u : Value} (r : RelV x u) : absV u = some x := by
  cases x with
  | non => cases r; rfl
  | bl _ => cases r; rfl
  | int _ => obtain ⟨t, rfl⟩ := r; rfl
  | str _ => obtain ⟨t, rfl⟩ := r; rfl
  | byt _ => obtain ⟨t, rfl⟩ := r; rfl
  | flt _ => obtain ⟨t, rfl⟩ := r; rfl
  | ref _ => cases r; rfl
  | ty _ => cases r; rfl
theorem RelV.inj {x y : V} {u : Value} (r : RelV x u) (q : RelV y u) : x = y := Option.some.inj (r.abs.symm.trans q.abs)
theorem Vals.inj : ∀ {xs ys : List V} {us : List Value}, Vals xs us → Vals ys us → xs = ys
  | _, _, _, .nil, .nil => rfl
  | _, _, _, .cons r t, .cons r' t' => by rw [r.inj r', Vals.inj t t']
section
variable {X : Cx} {pins : List (Addr × Obj)} {σ : St} {H : Hp} {s : Shared} {a : Addr} {xs ys : List V}
theorem SqL.of {K : PySem.W.Frag} (h : H a = some (.lst xs)) : SqL K H a xs := .inl (.inl h)
theorem SqT.of {K : PySem.W.Frag} (h : H a = some (.tup xs)) : SqT K H a xs := .inl (.inl h)
theorem Inv.list (I : Inv X pins σ H s) (h : SqL X.K H a xs) : ∃ its : List Value, Vals xs its ∧ PlainL s.heap a its.toArray ∧ xs.length ≤ sizeLine := by
  rcases h with h | ⟨o, its, n, hk, hc, hd, hs, hz, r⟩
  · obtain ⟨z, its, n, r, e⟩ := h.ok I.hok
    exact ⟨its, r, ⟨_, n, e, rfl, rfl, rfl⟩, z⟩
  · refine ⟨its.toList, r, ⟨o, n, I.kIn a o hk, hc, hd, by simpa using hs⟩, ?_⟩
    have e := r.length
    simp only [Array.length_toList] at e
    omega
theorem Inv.tuple (I : Inv X pins σ H s) (h : SqT X.K H a xs) : ∃ its : List Value, Vals xs its ∧ IsTup s.heap a its.toArray ∧ xs.length ≤ sizeLine := by
  rcases h with h | ⟨o, its, n, hk, hc, hs, hz, r⟩
  · obtain ⟨z, its, r, p⟩ := h.ok I.hok
    exact ⟨its, r, p, z⟩
  · refine ⟨its.toList, r, ⟨o, I.kIn a o hk, hc, n, by simpa using hs⟩, ?_⟩
    have e := r.length
    simp only [Array.length_toList] at e
    omega
theorem Inv.list_inj (I : Inv X pins σ H s) (h : SqL X.K H a xs) (h' : SqL X.K H a ys) : xs = ys := by
  obtain ⟨its, r, ⟨o, n, e, _, _, d⟩, _⟩ := I.list h
  obtain ⟨its', r', ⟨o', n', e', _, _, d'⟩, _⟩ := I.list h'
  rw [e] at e'; cases e'
  rw [d] at d'
  injection d' with d1 _
  have : its = its' := by simpa using congrArg Array.toList d1
  subst this
  exact r.inj r'
end

/-! ### another wish about exceptions -/
abbrev Cx.wish (X : Cx) (E : Value → Shared → Prop) : Cx := { X with xe := E }
/-- no exception leaves -/
abbrev Cx.nox (X : Cx) : Cx := X.wish fun _ _ => False
theorem Cx.Ok.wish {X : Cx} (ok : X.Ok) (E : Value → Shared → Prop) : (X.wish E).Ok :=
  ⟨ok.mod, ok.kind, ok.glob, ok.blt, ok.above, ok.inj, ok.has, ok.cab, ok.hd, ok.frames, ok.stk, ok.exf, ok.bs, ok.bsz, ok.noex, ok.exfs, ok.funs, ok.frf⟩
theorem Cx.Ok.unwish {X : Cx} {E : Value → Shared → Prop} (ok : (X.wish E).Ok) : X.Ok :=
  ⟨ok.mod, ok.kind, ok.glob, ok.blt, ok.above, ok.inj, ok.has, ok.cab, ok.hd, ok.frames, ok.stk, ok.exf, ok.bs, ok.bsz, ok.noex, ok.exfs, ok.funs, ok.frf⟩
section
variable {X : Cx} {pins : List (Addr × Obj)} {σ : St} {H : Hp} {s : Shared} {E : Value → Shared → Prop}
theorem Inv.wish (I : Inv X pins σ H s) (E : Value → Shared → Prop) : Inv (X.wish E) pins σ H s := ⟨I.ok.wish E, I.os, I.bare, I.base, I.loc, I.cell, I.free, I.freeC, I.pin, I.hok, I.len⟩
theorem Inv.unwish (I : Inv (X.wish E) pins σ H s) : Inv X pins σ H s := ⟨I.ok.unwish, I.os, I.bare, I.base, I.loc, I.cell, I.free, I.freeC, I.pin, I.hok, I.len⟩
theorem SP.unwish {D : Ends} {f : Flow} {s' : Shared} (h : SP (X.wish E) pins D f s') : SP X pins D f s' := by
  cases f with
  | next => obtain ⟨σ', H', I, q⟩ := h; exact ⟨σ', H', I.unwish, q⟩
  | brk => obtain ⟨σ', H', I, q⟩ := h; exact ⟨σ', H', I.unwish, q⟩
  | cont => obtain ⟨σ', H', I, q⟩ := h; exact ⟨σ', H', I.unwish, q⟩
  | ret u => obtain ⟨v, σ', H', I, r, q⟩ := h; exact ⟨v, σ', H', I.unwish, r, q⟩
theorem PSs.nox {st : List Stmt} {t : TS} (h : PSs X.nox st t) : PSs X st t := fun pins s σ H D I hw =>
  wpAny_mono (h pins s σ H D (I.wish _) hw) (fun _ _ q => q.unwish) fun _ _ z => False.elim z
end

/-! ### blocks and small statements -/
section
variable {X : Cx} {st : Stmt} {rest : List Stmt} {t u : TS} {e : Expr} {te : TE} {pos : Pos}
def tNext : TS := fun D σ H => D.nx σ H
def tSeq (t u : TS) : TS := fun D σ H => t { D with nx := u D } σ H
theorem pss_nil : PSs X [] tNext := fun _ _ σ H _ I h => wpAny_execs_nil ⟨σ, H, I, h⟩
theorem pss_cons (h1 : PS X st t) (h2 : PSs X rest u) : PSs X (st :: rest) (tSeq t u) := by
  intro pins s σ H D I h
  refine wpAny_execs_cons (thn (h1 pins s σ H { D with nx := u D } I h) fun f s1 q => ?_)
  cases f with
  | next =>
    obtain ⟨σ', H', I', q⟩ := q
    exact h2 pins s1 σ' H' D I' q
  | ret v => exact q
  | brk => exact q
  | cont => exact q
theorem pss_one (h1 : PS X st t) : PSs X [st] t := by
  intro pins s σ H D I h
  refine wpAny_execs_cons (thn (h1 pins s σ H D I h) fun f s1 q => ?_)
  cases f with
  | next => exact wpAny_execs_nil q
  | ret v => exact q
  | brk => exact q
  | cont => exact q
/-- in a def's body nothing is shown -/
theorem Inv.quiet {pins : List (Addr × Obj)} {σ : St} {H : Hp} {s : Shared} (I : Inv X pins σ H s) : interactive X.env = false := by simp [interactive, I.ok.kind]
/-- an expression whose value is dropped -/
def tDrop (te : TE) : TS := fun D σ H => te σ H fun _ H1 => D.nx σ H1
theorem ps_expr (he : PE X e te) (hs : swapsWith e none pos.line X.env = pure false := by rfl) : PS X (.Expr e pos) (tDrop te) := by
  intro pins s σ H D I h
  exact wpAny_Expr_any (thn (he pins s σ H _ I h) fun v s1 ⟨x, H1, I1, r1, q1⟩ => ⟨σ, H1, I1, q1⟩) I.quiet hs
def tRet (te : TE) : TS := fun D σ H => te σ H D.rt
theorem ps_ret (he : PE X e te) : PS X (.Return (some e) pos) (tRet te) := by
  intro pins s σ H D I h
  exact wpAny_Return_some (thn (he pins s σ H _ I h) fun v s1 ⟨x, H1, I1, r1, q1⟩ => ⟨x, σ, H1, I1, r1, q1⟩)
def tIfS (c : TT) (t u : TS) : TS := fun D σ H => c σ H fun b H1 => if b = true then t D σ H1 else u D σ H1
theorem ps_if {c : Expr} {a b : List Stmt} {tc : TT} (hc : PT X c tc) (ha : PSs X a t) (hb : PSs X b u) : PS X (.If c a b pos) (tIfS tc t u) := by
  intro pins s σ H D I h
  refine wpAny_If (thn (hc pins s σ H _ I h) fun d s1 ⟨H1, I1, q1⟩ => ?_)
  cases d with
  | true => exact ha pins s1 σ H1 D I1 q1
  | false => exact hb pins s1 σ H1 D I1 q1
end

/-! ### targets -/
abbrev TG := V → St → Hp → (St → Hp → Prop) → Prop
def PG (X : Cx) (target : Expr) (t : TG) : Prop :=
  ∀ (pins : List (Addr × Obj)) (s : Shared) (σ : St) (H : Hp) (v : V) (u : Value) (Q : St → Hp → Prop), Inv X pins σ H s → RelV v u → t v σ H Q →
    wpAny (model X.prog X.w) X.A (assign target X.env u) (fun _ s' => ∃ σ' H', Inv X pins σ' H' s' ∧ Q σ' H') X.xe s
section
variable {X : Cx} {pos : Pos}
def gName (i : Nat) : TG := fun v σ H Q => Q (σ.set i (some v)) H
theorem pg_name {i : Nat} {x : Str} (hN : X.N.Nodup) (hi : X.N[i]? = some x) (hx : Loc X.env.scope x) (hf : X.fn x = true ∨ X.env.scope.names.lookup x = some .local := by first | exact .inl rfl | exact .inr rfl | assumption) : PG X (.Name x pos) (gName i) := by
  intro pins s σ H v u Q I r h
  exact wpAny_assign_Name (store_ok I hN hi hx r (fun s' I' => ⟨_, H, I', h⟩) hf)
/-- target = value -/
def tAsg (te : TE) (g : TG) : TS := fun D σ H => te σ H fun x H1 => g x σ H1 D.nx
theorem ps_asg {tg e : Expr} {te : TE} {g : TG} (he : PE X e te) (hg : PG X tg g) (hs : swapsWithSole [tg] e pos.line X.env = pure false := by rfl) (hw : swappedStores [tg] e X.env = pure none := by rfl)
    (h1 : (assignEach [tg] X.env).map (·.2) = [assign tg X.env] := by rfl) : PS X (.Assign [tg] e pos) (tAsg te g) := by
  intro pins s σ H D I h
  refine wpAny_Assign_stores (thn (he pins s σ H _ I h) fun v s1 ⟨x, H1, I1, r1, q1⟩ => ?_) hs hw
  rw [h1]
  exact thn (hg pins s1 σ H1 x v _ I1 r1 q1) fun _ s2 q => q
/-- name = value -/
theorem ps_set {i : Nat} {x : Str} {e : Expr} {te : TE} {pos' : Pos} (hN : X.N.Nodup) (hi : X.N[i]? = some x) (hx : Loc X.env.scope x) (he : PE X e te) (hs : swapsWith e (some (.Name x pos')) pos.line X.env = pure false := by rfl) (hf : X.fn x = true ∨ X.env.scope.names.lookup x = some .local := by first | exact .inl rfl | exact .inr rfl | assumption) :
    PS X (.Assign [.Name x pos'] e pos) (tAsg te (gName i)) := by
  intro pins s σ H D I h
  refine wpAny_Assign_Name (thn (he pins s σ H _ I h) fun v s1 ⟨y, H1, I1, r1, q1⟩ => ?_) hs
  exact store_ok I1 hN hi hx r1 (fun s2 I2 => ⟨_, H1, I2, q1⟩) hf
end

/-! ### while -/
section
variable {X : Cx} {pos : Pos}
/-- the invariant W with its measure -/
def tWhile (c : TT) (tb : TS) : TS := fun D σ H => ∃ W : Nat → St → Hp → Prop, (∃ m, W m σ H) ∧ ∀ m σ H, W m σ H →
  c σ H fun b H1 => if b = true then ∃ N : St → Hp → Prop, (∀ σ' H', N σ' H' → ∃ m', m' < m ∧ W m' σ' H') ∧ tb { D with nx := N, ct := N, bk := D.nx } σ H1 else D.nx σ H1
theorem ps_while {c : Expr} {body : List Stmt} {tc : TT} {tb : TS} (hp : PassesOwn (model X.prog X.w) X.A X.env X.xe) (hc : PT X c tc) (hb : PSs X body tb) : PS X (.While c body [] pos) (tWhile tc tb) := by
  intro pins s σ H D I h
  obtain ⟨W, ⟨m0, w0⟩, turn⟩ := h
  refine wpAny_While (codeAny_whileLoop (fun n s' => ∃ σ' H', Inv X pins σ' H' s' ∧ W n σ' H') ?_ m0 ⟨σ, H, I, w0⟩)
  rintro n s1 ⟨σ1, H1, I1, w1⟩
  refine wpAny_passesOwn hp (thn (hc pins s1 σ1 H1 _ I1 (turn n σ1 H1 w1)) fun b s2 ⟨H2, I2, q2⟩ => ?_)
  cases b with
  | true =>
    obtain ⟨N, hN, q2⟩ := q2
    rw [if_pos rfl]
    refine wpAny_passesOwn hp (thn (hb pins s2 σ1 H2 _ I2 q2) fun f s3 q3 => ?_)
    cases f with
    | next =>
      obtain ⟨σ3, H3, I3, n3⟩ := q3
      obtain ⟨m', hm, w3⟩ := hN σ3 H3 n3
      exact ⟨m', hm, σ3, H3, I3, w3⟩
    | cont =>
      obtain ⟨σ3, H3, I3, n3⟩ := q3
      obtain ⟨m', hm, w3⟩ := hN σ3 H3 n3
      exact ⟨m', hm, σ3, H3, I3, w3⟩
    | brk => exact q3
    | ret v => exact q3
  | false =>
    rw [if_neg Bool.false_ne_true]
    exact wpAny_execs_nil ⟨σ1, H2, I2, q2⟩
end

/-! ### what a loop or a comprehension walks -/
/-- at turn i: it yields x (the heap may grow), or it stops -/
structure It where
  go : Nat → Hp → Prop
  yld : Nat → Hp → V → Hp → Prop
  stop : Nat → Hp → Prop
/-- the iterator's own objects may turn: they are not the frame's, not pinned, younger than the entry (or a comprehension's own) -/
def FpOk (X : Cx) (pins : List (Addr × Obj)) (H : Hp) (b : Addr) : Prop :=
  H b = none ∧ b ≠ X.env.locals ∧ b ∉ X.fs ∧ (b ∈ X.ex ∨ X.s_0.heap.objs.size ≤ b) ∧ (∀ x c, X.env.cells.lookup x = some c → c ≠ b) ∧ ∀ p ∈ X.pn ++ pins, p.1 ≠ b
theorem Inv.fpOk {X : Cx} {pins : List (Addr × Obj)} {σ : St} {H H' : Hp} {s : Shared} {b : Addr} (I : Inv X pins σ H s) (hb : s.heap.objs.size ≤ b) (hn : H' b = none) : FpOk X pins H' b := by
  refine ⟨hn, Nat.ne_of_gt (Nat.lt_of_lt_of_le I.lt hb), I.nofs hb, .inr (Nat.le_trans I.sz hb), fun x c e z => ?_, fun p hp z => ?_⟩
  · obtain ⟨v, q⟩ := I.cell x c e
    exact absurd (Nat.lt_of_lt_of_le q.lt (by rw [z]; exact hb)) (Nat.lt_irrefl _)
  · exact absurd (Nat.lt_of_lt_of_le (Heap.lt_size (I.pin p hp).1) (by rw [z]; exact hb)) (Nat.lt_irrefl _)
structure Turn (P : Program) (w : World) (K : PySem.W.Frag) (tg : Expr) (J : It) (fp : List Addr) (it : Addr) (tn : Nat → Heap → Prop) : Prop where
  mem : it ∈ fp
  obj : ∀ i h, tn i h → ∀ b ∈ fp, ∃ o, h.get? b = some o ∧ ∀ v, o.data ≠ .cell v
  keep : ∀ i h h', tn i h → (∀ b ∈ fp, ∀ o, h.get? b = some o → h'.get? b = some o) → tn i h'
  item : ∀ (X : Cx), X.prog = P → X.w = w → X.K = K → X.calm = true → ∀ (i : Nat) (pins : List (Addr × Obj)) (s : Shared) (σ : St) (H : Hp) (E : Value → Shared → Prop), Inv X pins σ H s → (∀ b ∈ fp, FpOk X pins H b) → tn i s.heap → J.go i H →
    wpAny (model P w) X.A (pyNext (.ref it)) (fun r s1 => ∃ u, r = some u ∧
      wpAny (model P w) X.A (letOwnedTupleGo tg (.ref it) u) (fun _ s2 => ∃ x H', Inv X pins σ H' s2 ∧ RelV x u ∧ J.yld i H x H' ∧ tn (i + 1) s2.heap ∧ ∀ b ∈ fp, H' b = none) E s1) E s
  done : ∀ (X : Cx), X.prog = P → X.w = w → X.K = K → X.calm = true → ∀ (i : Nat) (pins : List (Addr × Obj)) (s : Shared) (σ : St) (H : Hp) (E : Value → Shared → Prop), Inv X pins σ H s → (∀ b ∈ fp, FpOk X pins H b) → tn i s.heap → J.stop i H →
    wpAny (model P w) X.A (pyNext (.ref it)) (fun r s1 => r = none ∧ Inv X pins σ H s1) E s
  self : ∀ (A : Around) (i : Nat) (s : Shared) (Q : Value → Shared → Prop) (E : Value → Shared → Prop), tn i s.heap → Q (.ref it) s → wpAny (model P w) A (pyIter (.ref it)) Q E s
abbrev TI := St → Hp → (It → Hp → Prop) → Prop
/-- an iterator has come -/
def PIE (X : Cx) (pins : List (Addr × Obj)) (σ : St) (tg : Expr) (R : It → Hp → Prop) (itv : Value) (s2 : Shared) : Prop :=
  ∃ (it : Addr) (fp : List Addr) (tn : Nat → Heap → Prop) (J : It) (H' : Hp), itv = .ref it ∧ Inv X pins σ H' s2 ∧ Turn X.prog X.w X.K tg J fp it tn ∧ tn 0 s2.heap ∧ (∀ b ∈ fp, FpOk X pins H' b) ∧ R J H'
def PI (X : Cx) (tg iter : Expr) (wi : TI) : Prop :=
  ∀ (pins : List (Addr × Obj)) (s : Shared) (σ : St) (H : Hp) (R : It → Hp → Prop), Inv X pins σ H s → wi σ H R →
    wpAny (model X.prog X.w) X.A (eval iter X.env) (fun v s1 => wpAny (model X.prog X.w) X.A (pyIter v) (PIE X pins σ tg R) X.xe s1) X.xe s

/-- the step ahead of the store is nothing for an iterator that keeps no tuple -/
theorem go_of {M : Model} {A : Around} {E : Value → Shared → Prop} {s : Shared} {tg : Expr} {it : Addr} {u : Value} {o : Obj} {n : String} {vs : Array Value} {Q : Unit → Shared → Prop} (ho : s.heap.get? it = some o) (hc : o.cls = .type n) (hd : o.data = .fields vs)
    (hn : ["enumerate", "zip", "dict_itemiterator", "dict_reverseitemiterator", "odict_iterator", "itertools.zip_longest", "itertools.pairwise"].contains n = false) (hQ : Q () s) : wpAny M A (letOwnedTupleGo tg (.ref it) u) Q E s := by
  unfold letOwnedTupleGo
  cases tg <;> first
    | exact wpAny_pure hQ
    | (cases u <;> first
        | exact wpAny_pure hQ
        | (refine wpAny_bind (wpAny_load ho ?_)
           rw [hc, hd]
           show wpAny M A (if (["enumerate", "zip", "dict_itemiterator", "dict_reverseitemiterator", "odict_iterator", "itertools.zip_longest", "itertools.pairwise"].contains n && vs[0]? == some (rawInt _)) = true then _ else _) Q E s
           rw [if_neg (by intro h; rw [hn, Bool.false_and] at h; cases h)]
           exact wpAny_pure hQ))

/-- the list at a, as it stands at each turn (a loop may append to it) -/
def Itl (K : PySem.W.Frag) (a : Addr) : It :=
  ⟨fun i H => ∃ xs x, SqL K H a xs ∧ xs[i]? = some x, fun i H x H' => H' = H ∧ ∀ xs, SqL K H a xs → xs[i]? = some x, fun i H => ∃ xs, SqL K H a xs ∧ xs.length ≤ i⟩
def Itt (K : PySem.W.Frag) (a : Addr) : It :=
  ⟨fun i H => ∃ xs x, SqT K H a xs ∧ xs[i]? = some x, fun i H x H' => H' = H ∧ ∀ xs, SqT K H a xs → xs[i]? = some x, fun i H => ∃ xs, SqT K H a xs ∧ xs.length ≤ i⟩
/-- lo, lo + 1, .. (n of them) -/
def Itr (lo : Int) (n : Nat) : It := ⟨fun i _ => i < n, fun i H x H' => H' = H ∧ x = .int (lo + i), fun i _ => n ≤ i⟩
theorem turn_list {P : Program} {w : World} {K : PySem.W.Frag} {tg : Expr} (a it : Addr) : Turn P w K tg (Itl K a) [it] it (fun i h => h.IsListIter it a i) where
  mem := by simp
  obj := fun i h st b hb => by
    have e : b = it := by simpa using hb
    subst e
    obtain ⟨o, e, c, d⟩ := st
    exact ⟨o, e, fun v z => by rw [d] at z; cases z⟩
  keep := fun i h h' st k => st.at fun o e => k it (by simp) o e
  item := by
    intro X hP hw hK hc i pins s σ H E I hf st hg
    subst hP hw hK
    obtain ⟨xs, x, hq, hx⟩ := hg
    obtain ⟨its, rv, p, hz⟩ := I.list hq
    obtain ⟨u, hu, ru⟩ := rv.get hx
    obtain ⟨f0, f1, f2, f3, f4, f5⟩ := hf it (by simp)
    refine wpAny_pyNext_list_item st p.isList (x := u) (by simpa using hu) fun h' st' sb => ?_
    have I1 : Inv X pins σ H { s with heap := h' } := I.turned (t' := s.toks) (fun b o hb e => (sb.2 b hb).trans e) f0 f1 f3 f4 f5
    obtain ⟨o, e, c, d⟩ := id st'
    exact ⟨u, rfl, go_of (s := { s with heap := h' }) e c d (by decide) ⟨x, H, I1, ru, ⟨rfl, fun ys hy => by rw [I.list_inj hy hq]; exact hx⟩, st', fun b hb => (hf b hb).1⟩⟩
  done := by
    intro X hP hw hK hc i pins s σ H E I hf st hg
    subst hP hw hK
    obtain ⟨xs, hq, hx⟩ := hg
    obtain ⟨its, rv, p, hz⟩ := I.list hq
    obtain ⟨f0, f1, f2, f3, f4, f5⟩ := hf it (by simp)
    have hl := rv.length
    exact wpAny_pyNext_list_end (I.ok.hd hc) st p.isList (by simp; omega) fun h' eb => ⟨rfl, I.turned (t' := s.toks) (fun b o hb e => eb b o hb e) f0 f1 f3 f4 f5⟩
  self := fun _ _ _ _ _ st h => wpAny_pyIter_listiter st h
theorem turn_range {P : Program} {w : World} {K : PySem.W.Frag} {tg : Expr} (it : Addr) (lo : Int) (n : Nat) : Turn P w K tg (Itr lo n) [it] it (fun i h => IsRangeIter h it (lo + (i : Nat) * 1) ((n : Int) - (i : Nat)) 1) where
  mem := by simp
  obj := fun i h st b hb => by
    have e : b = it := by simpa using hb
    subst e
    exact ⟨_, st, fun v z => by
      have z' : Data.fields _ = Data.cell v := z
      cases z'⟩
  keep := fun i h h' st k => k it (by simp) _ st
  item := by
    intro X hP hw hK hc i pins s σ H E I hf st hg
    subst hP hw hK
    obtain ⟨f0, f1, f2, f3, f4, f5⟩ := hf it (by simp)
    have W := Walks.range (prog := X.prog) (w := X.w) (I.ok.hd hc) it lo 1 n
    refine W.item i s _ _ hg st fun v h' tk hv st' kk => ?_
    obtain ⟨t, rfl⟩ := hv
    have I1 : Inv X pins σ H { s with heap := h', toks := tk } := I.turned (fun b o hb e => kk b o (by simpa using hb) e) f0 f1 f3 f4 f5
    refine ⟨_, rfl, go_of (s := { s with heap := h', toks := tk }) (n := "range_iterator") st' rfl rfl (by decide) ⟨.int (lo + i), H, I1, ⟨t, ?_⟩, ⟨rfl, rfl⟩, st', fun b hb => (hf b hb).1⟩⟩
    rw [Int.mul_one]
  done := by
    intro X hP hw hK hc i pins s σ H E I hf st hg
    subst hP hw hK
    obtain ⟨f0, f1, f2, f3, f4, f5⟩ := hf it (by simp)
    exact wpAny_pyNext_range_end (I.ok.hd hc) st (by have : n ≤ i := hg; omega) fun h' eb => ⟨rfl, I.turned (t' := s.toks) (fun b o hb e => eb b o hb e) f0 f1 f3 f4 f5⟩
  self := fun _ _ _ _ _ st h => wpAny_pyIter_rangeiter st h
end L2

namespace L2
open PySem PySem.Spec PyProof.Rows
section
variable {X : Cx} {tg : Expr}
def iList (K : PySem.W.Frag) (tl : TE) : TI := fun σ H R => tl σ H fun x H1 => ∃ a, x = .ref a ∧ (∃ xs, SqL K H1 a xs) ∧ R (Itl K a) H1
theorem pi_list {l : Expr} {tl : TE} (hl : PE X l tl) : PI X tg l (iList X.K tl) := by
  intro pins s σ H R I h
  refine thn (hl pins s σ H _ I h) fun v s1 ⟨x, H1, I1, r1, q1⟩ => ?_
  obtain ⟨a, e, ⟨xs, hq⟩, q⟩ := q1
  subst e
  cases r1
  obtain ⟨its, rv, p, hz⟩ := I1.list hq
  refine wpAny_pyIter_list p.isList ?_
  refine ⟨s1.heap.objs.size, [s1.heap.objs.size], _, _, H1, rfl, I1.kept (t' := s1.toks) fun b o e => Heap.get?_push_of_some _ e, turn_list a _, ⟨_, Heap.get?_push_size _ rfl, rfl, rfl⟩, fun b hb => ?_, q⟩
  have e : b = s1.heap.objs.size := by simpa using hb
  subst e
  exact I1.fpOk (Nat.le_refl _) (I1.hok.fresh (Nat.le_refl _))
/-- a range object just made, walked -/
theorem range_it {pins : List (Addr × Obj)} {σ : St} {H : Hp} {s : Shared} {R : It → Hp → Prop} {E : Value → Shared → Prop} {lo hi : Int} {t u v : Tok} {tk : Nat} (I : Inv X pins σ H s) (h1 : -(2 ^ 62) ≤ lo) (h2 : lo < 2 ^ 62) (h3 : -(2 ^ 62) ≤ hi) (h4 : hi < 2 ^ 62)
    (q : R (Itr lo (hi - lo).toNat) H) : wpAny (model X.prog X.w) X.A (pyIter (.ref s.heap.objs.size)) (PIE X pins σ tg R) E { s with heap := s.heap.push { cls := .type "range", data := .fields #[.int lo t, .int hi u, .int 1 v] }, toks := tk } := by
  refine wpAny_pyIter_range (IsRange.new ..) (small_one h1 h2 h3 h4) ?_
  have I1 : Inv X pins σ H { s with heap := s.heap.push { cls := .type "range", data := .fields #[.int lo t, .int hi u, .int 1 v] }, toks := tk } := I.kept fun b o e => Heap.get?_push_of_some _ e
  refine ⟨(s.heap.push { cls := .type "range", data := .fields #[.int lo t, .int hi u, .int 1 v] }).objs.size, [(s.heap.push { cls := .type "range", data := .fields #[.int lo t, .int hi u, .int 1 v] }).objs.size], _, _, H, rfl,
    I1.kept (t' := tk) fun b o e => Heap.get?_push_of_some _ e, turn_range _ lo (hi - lo).toNat, ?_, fun b hb => ?_, q⟩
  · have e1 : lo + ((0 : Nat) : Int) * 1 = lo := by simp
    have e2 : (((hi - lo).toNat : Nat) : Int) - ((0 : Nat) : Int) = Builtin.Range.rangeSize lo hi 1 := by rw [rangeSize_one]; split <;> omega
    show IsRangeIter _ _ (lo + ((0 : Nat) : Int) * 1) ((((hi - lo).toNat : Nat) : Int) - ((0 : Nat) : Int)) 1
    rw [e1, e2]
    exact Heap.get?_push_size _ rfl
  · have e : b = (s.heap.push { cls := .type "range", data := .fields #[.int lo t, .int hi u, .int 1 v] }).objs.size := by simpa using hb
    subst e
    exact I1.fpOk (Nat.le_refl _) (I1.hok.fresh (Nat.le_refl _))
def iRng1 (ta : TA) : TI := fun σ H R => ta σ H fun vs H1 => ∃ j : Int, vs = [.int j] ∧ -(2 ^ 62) ≤ j ∧ j < 2 ^ 62 ∧ R (Itr 0 j.toNat) H1
def iRng2 (ta : TA) : TI := fun σ H R => ta σ H fun vs H1 => ∃ i j : Int, vs = [.int i, .int j] ∧ (-(2 ^ 62) ≤ i ∧ i < 2 ^ 62 ∧ -(2 ^ 62) ≤ j ∧ j < 2 ^ 62) ∧ R (Itr i (j - i).toNat) H1
theorem pi_range1 {a : Expr} {ta : TA} {p pos : Pos} (hg : Gl X "range") (hm : X.mg "range" = none) (ha : PA X [a] ta) (hs : starEach [a] X.env = [(false, eval a X.env)] := by rfl) : PI X tg (.Call (.Name "range" p) [a] [] pos) (iRng1 ta) := by
  intro pins s σ H R I h
  refine Call_ (ld_blt I hg hm boot_range (PyProof.Rows.callWith_type1 (thn (ha pos pins s σ H _ I h) fun us s1 ⟨vs, H1, I1, r1, q1⟩ => ?_) hs rfl))
  obtain ⟨j, e, q1, q2, q⟩ := q1
  subst e
  cases r1 with
  | cons r rr =>
    cases rr
    obtain ⟨t, rfl⟩ := r
    exact call_range_1 (range_it I1 (by omega) (by omega) q1 q2 (by simpa using q))
theorem pi_range2 {a b : Expr} {ta : TA} {p pos : Pos} (hg : Gl X "range") (hm : X.mg "range" = none) (ha : PA X [a, b] ta) (hs : starEach [a, b] X.env = [(false, eval a X.env), (false, eval b X.env)] := by rfl) (hs2 : starEach [b] X.env = [(false, eval b X.env)] := by rfl) :
    PI X tg (.Call (.Name "range" p) [a, b] [] pos) (iRng2 ta) := by
  intro pins s σ H R I h
  refine Call_ (ld_blt I hg hm boot_range (PyProof.Rows.callWith_type1 (thn (ha pos pins s σ H _ I h) fun us s1 ⟨vs, H1, I1, r1, q1⟩ => ?_) (by rw [hs, hs2]) (by rw [hs2]; rfl)))
  obtain ⟨i, j, e, ⟨q1, q2, q3, q4⟩, q⟩ := q1
  subst e
  cases r1 with
  | cons r rr =>
    cases rr with
    | cons r' rr =>
      cases rr
      obtain ⟨t, rfl⟩ := r
      obtain ⟨t', rfl⟩ := r'
      exact call_range_2 (range_it I1 q1 q2 q3 q4 q)

/-! ### for -/
/-- W: the invariant by the turn and a measure; N: what the body is to reach -/
def tFor (wi : TI) (g : TG) (tb : TS) : TS := fun D σ H => wi σ H fun J H1 => ∃ W : Nat → Nat → St → Hp → Prop, (∃ m, W 0 m σ H1) ∧ ∀ i m σ H, W i m σ H →
  (J.stop i H ∧ D.nx σ H) ∨ (J.go i H ∧ ∃ N : St → Hp → Prop, (∀ σ' H', N σ' H' → ∃ m', m' < m ∧ W (i + 1) m' σ' H') ∧ ∀ x H', J.yld i H x H' → g x σ H' fun σ2 H2 => tb { D with nx := N, ct := N, bk := D.nx } σ2 H2)
/-- the records at fp as they stand -/
def pinsAt (fp : List Addr) (h : Heap) : List (Addr × Obj) := fp.filterMap fun b => (h.get? b).map fun o => (b, o)
theorem mem_pinsAt {fp : List Addr} {h : Heap} {b : Addr} {o : Obj} (hb : b ∈ fp) (e : h.get? b = some o) : (b, o) ∈ pinsAt fp h := List.mem_filterMap.mpr ⟨b, hb, by rw [e]; rfl⟩
theorem of_pinsAt {fp : List Addr} {h : Heap} {p : Addr × Obj} (hp : p ∈ pinsAt fp h) : p.1 ∈ fp ∧ h.get? p.1 = some p.2 := by
  obtain ⟨b, hb, e⟩ := List.mem_filterMap.mp hp
  cases q : h.get? b with
  | none => rw [q] at e; cases e
  | some o =>
    rw [q] at e
    have e' : (b, o) = p := Option.some.inj e
    subst e'
    exact ⟨hb, q⟩
theorem Inv.pinned {pins : List (Addr × Obj)} {σ : St} {H : Hp} {s : Shared} {fp : List Addr} (I : Inv X pins σ H s) (hf : ∀ b ∈ fp, FpOk X pins H b) (ho : ∀ b ∈ fp, ∃ o, s.heap.get? b = some o ∧ ∀ v, o.data ≠ .cell v) : Inv X (pins ++ pinsAt fp s.heap) σ H s :=
  I.pins_of fun p hp => (List.mem_append.mp hp).elim (fun z => I.pin p (List.mem_append_right _ z)) fun z => by
    obtain ⟨hb, e⟩ := of_pinsAt z
    obtain ⟨f0, f1, f2, _⟩ := hf p.1 hb
    obtain ⟨o, e', d⟩ := ho p.1 hb
    rw [e] at e'; cases e'
    exact ⟨e, f0, f1, f2, d⟩
theorem Inv.unpinned {pins pl : List (Addr × Obj)} {σ : St} {H : Hp} {s : Shared} (I : Inv X (pins ++ pl) σ H s) : Inv X pins σ H s := I.pins_of fun p hp => I.pin p (List.mem_append_right _ (List.mem_append_left _ hp))
theorem ps_for {iter : Expr} {body : List Stmt} {wi : TI} {g : TG} {tb : TS} {pos : Pos} (hp : PassesOwn (model X.prog X.w) X.A X.env X.xe) (hc : X.calm = true) (hi : PI X tg iter wi) (hg : PG X tg g) (hb : PSs X body tb)
    (hs : ∀ x, foldedSetIterable iter X.env x = pure x := by intro _; rfl) : PS X (.For tg iter body [] pos) (tFor wi g tb) := by
  intro pins s σ H D I h
  refine wpAny_For (thn (hi pins s σ H _ I h) fun v s1 h1 => thn h1 fun itv s2 h2 => ?_) hs
  obtain ⟨it, fp, tn, J, H2, e, I2, T, st2, f2, W, ⟨m0, w0⟩, turn⟩ := h2
  subst e
  -- what stays true of the iterator's objects through the loop
  have stat : ∀ {H' : Hp}, (∀ b ∈ fp, H' b = none) → ∀ b ∈ fp, FpOk X pins H' b := fun hn b hb => ⟨hn b hb, (f2 b hb).2⟩
  refine codeAny_forLoop_any (fun n s' => ∃ i σ' H', Inv X pins σ' H' s' ∧ tn i s'.heap ∧ (∀ b ∈ fp, H' b = none) ∧ W i n σ' H') ?_ m0 ⟨0, σ, H2, I2, st2, fun b hb => (f2 b hb).1, w0⟩
  rintro n s3 ⟨i, σ3, H3, I3, st3, fr3, w3⟩
  rcases turn i n σ3 H3 w3 with ⟨stop, qn⟩ | ⟨go, N, hN, step⟩
  · refine wpAny_passesOwn hp (thn (T.done X rfl rfl rfl hc i pins s3 σ3 H3 X.xe I3 (stat fr3) st3 stop) fun r s4 ⟨hr, I4⟩ => ?_)
    subst hr
    exact wpAny_execs_nil ⟨σ3, H3, I4, qn⟩
  · refine wpAny_passesOwn hp (thn (T.item X rfl rfl rfl hc i pins s3 σ3 H3 X.xe I3 (stat fr3) st3 go) fun r s4 ⟨u, hr, h4⟩ => ?_)
    subst hr
    refine wpAny_passesOwn hp (thn h4 fun _ s5 ⟨x, H5, I5, r5, y5, st5, fr5⟩ => ?_)
    have I5' := I5.pinned (stat fr5) (T.obj _ _ st5)
    refine wpAny_passesOwn hp (thn (hg _ s5 σ3 H5 x u _ I5' r5 (step x H5 y5)) fun _ s6 ⟨σ6, H6, I6, q6⟩ => ?_)
    refine wpAny_passesOwn hp (thn (hb _ s6 σ6 H6 _ I6 q6) fun f s7 q7 => ?_)
    have again : ∀ {σ7 : St} {H7 : Hp}, Inv X (pins ++ pinsAt fp s5.heap) σ7 H7 s7 → N σ7 H7 → ∃ m, m < n ∧ ∃ i σ' H', Inv X pins σ' H' s7 ∧ tn i s7.heap ∧ (∀ b ∈ fp, H' b = none) ∧ W i m σ' H' := fun {σ7 H7} I7 n7 => by
      obtain ⟨m', hm, w7⟩ := hN σ7 H7 n7
      refine ⟨m', hm, i + 1, σ7, H7, I7.unpinned, T.keep _ _ _ st5 fun b hb o e => (I7.pin (b, o) (List.mem_append_right _ (List.mem_append_right _ (mem_pinsAt hb e)))).1, fun b hb => ?_, w7⟩
      obtain ⟨o, e, d⟩ := T.obj _ _ st5 b hb
      exact (I7.pin (b, o) (List.mem_append_right _ (List.mem_append_right _ (mem_pinsAt hb e)))).2.1
    cases f with
    | next => obtain ⟨σ7, H7, I7, n7⟩ := q7; exact again I7 n7
    | cont => obtain ⟨σ7, H7, I7, n7⟩ := q7; exact again I7 n7
    | brk => obtain ⟨σ7, H7, I7, q7⟩ := q7; exact ⟨σ7, H7, I7.unpinned, q7⟩
    | ret v => obtain ⟨x7, σ7, H7, I7, r7, q7⟩ := q7; exact ⟨x7, σ7, H7, I7.unpinned, r7, q7⟩
end

/-! ### the forms one uses -/
/-- over a list that the body leaves as it is -/
theorem for_list {K : PySem.W.Frag} {a : Addr} {xs : List V} {g : TG} {tb : TS} {D : Ends} {σ : St} {H : Hp} (Pv : Nat → St → Hp → Prop) (h0 : Pv 0 σ H) (hl : ∀ i σ H, i ≤ xs.length → Pv i σ H → SqL K H a xs)
    (hs : ∀ i x σ H, xs[i]? = some x → Pv i σ H → g x σ H fun σ2 H2 => tb { D with nx := Pv (i + 1), ct := Pv (i + 1), bk := D.nx } σ2 H2) (hd : ∀ σ H, Pv xs.length σ H → D.nx σ H) :
    ∃ W : Nat → Nat → St → Hp → Prop, (∃ m, W 0 m σ H) ∧ ∀ i m σ H, W i m σ H →
      ((Itl K a).stop i H ∧ D.nx σ H) ∨ ((Itl K a).go i H ∧ ∃ N : St → Hp → Prop, (∀ σ' H', N σ' H' → ∃ m', m' < m ∧ W (i + 1) m' σ' H') ∧ ∀ x H', (Itl K a).yld i H x H' → g x σ H' fun σ2 H2 => tb { D with nx := N, ct := N, bk := D.nx } σ2 H2) := by
  refine ⟨fun i m σ H => m = xs.length - i ∧ i ≤ xs.length ∧ Pv i σ H, ⟨xs.length, by simp, Nat.zero_le _, h0⟩, ?_⟩
  rintro i m σ H ⟨rfl, hi, p⟩
  have q := hl i σ H hi p
  by_cases hlt : i < xs.length
  · refine .inr ⟨⟨xs, xs[i], q, by simp [hlt]⟩, Pv (i + 1), fun σ' H' p' => ⟨xs.length - (i + 1), by omega, rfl, hlt, p'⟩, fun x H' y => ?_⟩
    obtain ⟨e, y⟩ := y
    subst e
    exact hs i x σ _ (y xs q) p
  · have e : i = xs.length := by omega
    subst e
    exact .inl ⟨⟨xs, q, Nat.le_refl _⟩, hd σ H p⟩
theorem for_range {lo : Int} {n : Nat} {g : TG} {tb : TS} {D : Ends} {σ : St} {H : Hp} (Pv : Nat → St → Hp → Prop) (h0 : Pv 0 σ H)
    (hs : ∀ i σ H, i < n → Pv i σ H → g (.int (lo + i)) σ H fun σ2 H2 => tb { D with nx := Pv (i + 1), ct := Pv (i + 1), bk := D.nx } σ2 H2) (hd : ∀ σ H, Pv n σ H → D.nx σ H) :
    ∃ W : Nat → Nat → St → Hp → Prop, (∃ m, W 0 m σ H) ∧ ∀ i m σ H, W i m σ H →
      ((Itr lo n).stop i H ∧ D.nx σ H) ∨ ((Itr lo n).go i H ∧ ∃ N : St → Hp → Prop, (∀ σ' H', N σ' H' → ∃ m', m' < m ∧ W (i + 1) m' σ' H') ∧ ∀ x H', (Itr lo n).yld i H x H' → g x σ H' fun σ2 H2 => tb { D with nx := N, ct := N, bk := D.nx } σ2 H2) := by
  refine ⟨fun i m σ H => m = n - i ∧ i ≤ n ∧ Pv i σ H, ⟨n, by simp, Nat.zero_le _, h0⟩, ?_⟩
  rintro i m σ H ⟨rfl, hi, p⟩
  by_cases hlt : i < n
  · refine .inr ⟨hlt, Pv (i + 1), fun σ' H' p' => ⟨n - (i + 1), by omega, rfl, hlt, p'⟩, fun x H' y => ?_⟩
    obtain ⟨e, y⟩ := y
    subst e y
    exact hs i σ _ hlt p
  · have e : i = n := by omega
    subst e
    exact .inl ⟨Nat.le_refl _, hd σ H p⟩
end L2

namespace L2
open PySem PySem.Spec PyProof.Rows

abbrev R2 := V → V → Hp → VK → Prop
/-- a two-place operation on values: f is binaryOp op, inplaceOp op or compareOp op -/
def OpR (X : Cx) (f : Value → Value → Sem Value) (r : R2) : Prop :=
  ∀ (pins : List (Addr × Obj)) (s : Shared) (σ : St) (H : Hp) (x y : V) (v u : Value) (Q : VK), Inv X pins σ H s → RelV x v → RelV y u → r x y H Q →
    wpAny (model X.prog X.w) X.A (f v u) (EP X pins σ Q) X.xe s
/-- a one-place operation -/
def UnR (X : Cx) (f : Value → Sem Value) (r : V → Hp → VK → Prop) : Prop :=
  ∀ (pins : List (Addr × Obj)) (s : Shared) (σ : St) (H : Hp) (x : V) (v : Value) (Q : VK), Inv X pins σ H s → RelV x v → r x H Q →
    wpAny (model X.prog X.w) X.A (f v) (EP X pins σ Q) X.xe s
/-- a call of a value that is known (a builtin, a type) with values -/
def CallR (X : Cx) (f : Value) (r : List V → Hp → VK → Prop) : Prop :=
  ∀ (pins : List (Addr × Obj)) (s : Shared) (σ : St) (H : Hp) (xs : List V) (us : List Value) (Q : VK), Inv X pins σ H s → Vals xs us → r xs H Q →
    wpAny (model X.prog X.w) X.A (call f us) (EP X pins σ Q) X.xe s
/-- a value's truth -/
def TruR (X : Cx) (r : V → Hp → (Bool → Hp → Prop) → Prop) : Prop :=
  ∀ (pins : List (Addr × Obj)) (s : Shared) (σ : St) (H : Hp) (x : V) (v : Value) (Q : Bool → Hp → Prop), Inv X pins σ H s → RelV x v → r x H Q →
    wpAny (model X.prog X.w) X.A (truthy v) (TP X pins σ Q) X.xe s

def tOp (r : R2) (ta tb : TE) : TE := fun σ H Q => ta σ H fun x H1 => tb σ H1 fun y H2 => r x y H2 Q
def tUn (r : V → Hp → VK → Prop) (ta : TE) : TE := fun σ H Q => ta σ H fun x H1 => r x H1 Q
/-- ints in, under C, and a value out -/
def rI (C : Int → Int → Prop) (g : Int → Int → V) : R2 := fun x y H Q => ∃ i j, x = .int i ∧ y = .int j ∧ C i j ∧ Q (g i j) H
def rI0 (g : Int → Int → V) : R2 := fun x y H Q => ∃ i j, x = .int i ∧ y = .int j ∧ Q (g i j) H
def rU (g : Int → V) : V → Hp → VK → Prop := fun x H Q => ∃ i, x = .int i ∧ Q (g i) H

section
variable {X : Cx} {a b c : Expr} {ta tb tc : TE} {pos : Pos}

theorem binT (ha : PE X a ta) (hb : PE X b tb) {pins : List (Addr × Obj)} {s : Shared} {σ : St} {H : Hp} {R : V → V → Hp → Prop} (I : Inv X pins σ H s)
    (h : ta σ H fun x H1 => tb σ H1 fun y H2 => R x y H2) {Q : Value → Shared → Prop} {f : Value → Value → Sem Value}
    (hf : ∀ v u s2 x y H2, Inv X pins σ H2 s2 → RelV x v → RelV y u → R x y H2 → wpAny (model X.prog X.w) X.A (f v u) Q X.xe s2) :
    wpAny (model X.prog X.w) X.A (eval a X.env) (fun v s₁ => wpAny (model X.prog X.w) X.A (eval b X.env) (fun u s₂ => wpAny (model X.prog X.w) X.A (f v u) Q X.xe s₂) X.xe s₁) X.xe s := by
  refine thn (ha pins s σ H _ I h) fun v s1 ⟨x, H1, I1, r1, q1⟩ => ?_
  refine thn (hb pins s1 σ H1 _ I1 q1) fun u s2 ⟨y, H2, I2, r2, q2⟩ => ?_
  exact hf v u s2 x y H2 I2 r1 r2 q2

theorem pe_op {op : Operator} {r : R2} (ho : OpR X (binaryOp op) r) (ha : PE X a ta) (hb : PE X b tb) : PE X (.BinOp a op b pos) (tOp r ta tb) := by
  intro pins s σ H Q I h
  exact wpAny_BinOp (binT ha hb I h fun v u s2 x y H2 I2 rx ry q => ho pins s2 σ H2 x y v u Q I2 rx ry q)
theorem pe_un {op : UnaryOp} {r : V → Hp → VK → Prop} (ho : UnR X (unaryOp op) r) (ha : PE X a ta) : PE X (.UnaryOp op a pos) (tUn r ta) := by
  intro pins s σ H Q I h
  exact UnaryOp_ (thn (ha pins s σ H _ I h) fun v s1 ⟨x, H1, I1, r1, q1⟩ => ho pins s1 σ H1 x v Q I1 r1 q1)
/-! ### ints -/
theorem opI {f : Value → Value → Sem Value} {C : Int → Int → Prop} {g : Int → Int → Int}
    (rule : ∀ (i j : Int) (t u : Tok) (s : Shared) (Q : Value → Shared → Prop) (E : Value → Shared → Prop), C i j → Q (.int (g i j) s.toks) { s with toks := s.toks + 1 } → wpAny (model X.prog X.w) X.A (f (.int i t) (.int j u)) Q E s) :
    OpR X f (rI C fun i j => .int (g i j)) := by
  intro pins s σ H x y v u Q I rx ry h
  obtain ⟨i, j, rfl, rfl, hc, q⟩ := h
  obtain ⟨t, rfl⟩ := rx
  obtain ⟨t', rfl⟩ := ry
  exact rule i j t t' s _ _ hc ⟨.int (g i j), H, I.tok _, ⟨_, rfl⟩, q⟩
theorem opI0 {f : Value → Value → Sem Value} {g : Int → Int → Int}
    (rule : ∀ (i j : Int) (t u : Tok) (s : Shared) (Q : Value → Shared → Prop) (E : Value → Shared → Prop), Q (.int (g i j) s.toks) { s with toks := s.toks + 1 } → wpAny (model X.prog X.w) X.A (f (.int i t) (.int j u)) Q E s) :
    OpR X f (rI0 fun i j => .int (g i j)) := by
  intro pins s σ H x y v u Q I rx ry h
  obtain ⟨i, j, rfl, rfl, q⟩ := h
  obtain ⟨t, rfl⟩ := rx
  obtain ⟨t', rfl⟩ := ry
  exact rule i j t t' s _ _ ⟨.int (g i j), H, I.tok _, ⟨_, rfl⟩, q⟩
theorem opB0 {f : Value → Value → Sem Value} {g : Int → Int → Bool}
    (rule : ∀ (i j : Int) (t u : Tok) (s : Shared) (Q : Value → Shared → Prop) (E : Value → Shared → Prop), Q (.bool (g i j)) s → wpAny (model X.prog X.w) X.A (f (.int i t) (.int j u)) Q E s) :
    OpR X f (rI0 fun i j => .bl (g i j)) := by
  intro pins s σ H x y v u Q I rx ry h
  obtain ⟨i, j, rfl, rfl, q⟩ := h
  obtain ⟨t, rfl⟩ := rx
  obtain ⟨t', rfl⟩ := ry
  exact rule i j t t' s _ _ ⟨.bl (g i j), H, I, rfl, q⟩

def CPow (i j : Int) : Prop := 0 ≤ j ∧ j ≤ 1000000 ∧ i.natAbs < 2 ^ 64
theorem two_pow_nn (k : Nat) : (0 : Int) ≤ 2 ^ k := by
  rw [two_pow_cast]
  exact Int.natCast_nonneg _

theorem op_add : OpR X (binaryOp .Add) (rI0 fun i j => .int (i + j)) := opI0 fun _ _ _ _ _ _ _ q => add_int q
theorem op_sub : OpR X (binaryOp .Sub) (rI0 fun i j => .int (i - j)) := opI0 fun _ _ _ _ _ _ _ q => sub_int q
theorem op_shl : OpR X (binaryOp .LShift) (rI CPow fun i j => .int (i * 2 ^ j.toNat)) := opI fun _ _ _ _ _ _ _ hc q => lshift_int_small hc.1 hc.2.1 hc.2.2 q
theorem op_shr : OpR X (binaryOp .RShift) (rI (fun _ j => 0 ≤ j) fun i j => .int (i / 2 ^ j.toNat)) := opI fun i j _ _ _ _ _ hc q =>
  rshift_int hc (by rw [Int.fdiv_eq_ediv_of_nonneg i (two_pow_nn _)]; exact q)
theorem op_and : OpR X (binaryOp .BitAnd) (rI0 fun i j => .int (Builtin.bitAnd i j)) := opI0 fun _ _ _ _ _ _ _ q => and_int q
theorem op_or : OpR X (binaryOp .BitOr) (rI0 fun i j => .int (Builtin.bitOr i j)) := opI0 fun _ _ _ _ _ _ _ q => or_int q
theorem unI {f : Value → Sem Value} {g : Int → Int}
    (rule : ∀ (i : Int) (t : Tok) (s : Shared) (Q : Value → Shared → Prop) (E : Value → Shared → Prop), Q (.int (g i) s.toks) { s with toks := s.toks + 1 } → wpAny (model X.prog X.w) X.A (f (.int i t)) Q E s) :
    UnR X f (rU fun i => .int (g i)) := by
  intro pins s σ H x v Q I rx h
  obtain ⟨i, rfl, q⟩ := h
  obtain ⟨t, rfl⟩ := rx
  exact rule i t s _ _ ⟨.int (g i), H, I.tok _, ⟨_, rfl⟩, q⟩
theorem un_neg : UnR X (unaryOp .USub) (rU fun i => .int (-i)) := unI fun _ _ _ _ _ q => neg_int q
theorem un_inv : UnR X (unaryOp .Invert) (rU fun i => .int (Builtin.bitNot i)) := unI fun _ _ _ _ _ q => invert_int q

/-! ### bools among ints: n += (a < b) -/
end

/-! ### comparisons -/
/-- the scalars that == tells apart as data does -/
def scal : V → V → Bool
  | .non, .non => true | .non, .int _ => true | .int _, .non => true | .non, .bl _ => true | .bl _, .non => true | .non, .str _ => true | .str _, .non => true
  | .int _, .int _ => true | .bl _, .bl _ => true | .str _, .str _ => true | .byt _, .byt _ => true
  | .int _, .str _ => true | .str _, .int _ => true | .bl _, .str _ => true | .str _, .bl _ => true
  | _, _ => false
def rEq : R2 := fun x y H Q => scal x y = true ∧ Q (.bl (decide (x = y))) H
def rNe : R2 := fun x y H Q => scal x y = true ∧ Q (.bl (!decide (x = y))) H

theorem dec_int {i j : Int} : decide (V.int i = V.int j) = (i == j) := by
  rw [Bool.eq_iff_iff]
  simp
theorem dec_bl {i j : Bool} : decide (V.bl i = V.bl j) = (i == j) := by
  rw [Bool.eq_iff_iff]
  simp
theorem dec_str {i j : Str} : decide (V.str i = V.str j) = (i == j) := by
  rw [Bool.eq_iff_iff]
  simp
theorem dec_byt {i j : Array UInt8} : decide (V.byt i = V.byt j) = (i.toList == j.toList) := by
  rw [Bool.eq_iff_iff]
  cases i
  cases j
  simp

section
variable {X : Cx} {a b c : Expr} {ta tb tc : TE} {pos : Pos}
theorem fin_bl {pins : List (Addr × Obj)} {σ : St} {H : Hp} {s : Shared} {Q : VK} {k k' : Bool} (I : Inv X pins σ H s) (q : Q (.bl k) H) (e : k = k') : EP X pins σ Q (.bool k') s := by
  subst e
  exact ⟨.bl k, H, I, rfl, q⟩
theorem op_eq : OpR X (compareOp .Eq) rEq := by
  intro pins s σ H x y v u Q I rx ry h
  obtain ⟨hs, q⟩ := h
  cases x with
  | non =>
    cases rx
    cases y with
    | non => cases ry; exact PySem.EqNone.eq_none_none (fin_bl I q (by simp))
    | bl j => cases ry; exact PySem.EqNone.eq_none_bool (fin_bl I q (by simp))
    | int j => obtain ⟨t', rfl⟩ := ry; exact PySem.EqNone.eq_none_int (fin_bl I q (by simp))
    | str j => obtain ⟨t', rfl⟩ := ry; exact PySem.EqNone.eq_none_str (fin_bl I q (by simp))
    | _ => exact absurd (show false = true from hs) Bool.false_ne_true
  | bl i =>
    cases rx
    cases y with
    | non => cases ry; exact PySem.EqNone.eq_bool_none (fin_bl I q (by simp))
    | bl j => cases ry; exact eq_bool (fin_bl I q dec_bl)
    | str j => obtain ⟨t', rfl⟩ := ry; exact PySem.EqMixed.eq_bool_str (fin_bl I q (by simp))
    | _ => exact absurd (show false = true from hs) Bool.false_ne_true
  | int i =>
    obtain ⟨t, rfl⟩ := rx
    cases y with
    | non => cases ry; exact PySem.EqNone.eq_int_none (fin_bl I q (by simp))
    | int j => obtain ⟨t', rfl⟩ := ry; exact eq_int (fin_bl I q dec_int)
    | str j => obtain ⟨t', rfl⟩ := ry; exact PySem.EqMixed.eq_int_str (fin_bl I q (by simp))
    | _ => exact absurd (show false = true from hs) Bool.false_ne_true
  | str i =>
    obtain ⟨t, rfl⟩ := rx
    cases y with
    | non => cases ry; exact PySem.EqNone.eq_str_none (fin_bl I q (by simp))
    | bl j => cases ry; exact PySem.EqMixed.eq_str_bool (fin_bl I q (by simp))
    | int j => obtain ⟨t', rfl⟩ := ry; exact PySem.EqMixed.eq_str_int (fin_bl I q (by simp))
    | str j => obtain ⟨t', rfl⟩ := ry; exact eq_str (fin_bl I q dec_str)
    | _ => exact absurd (show false = true from hs) Bool.false_ne_true
  | byt i =>
    obtain ⟨t, rfl⟩ := rx
    cases y with
    | byt j => obtain ⟨t', rfl⟩ := ry; exact PySem.W.eq_bytes (fin_bl I q dec_byt)
    | _ => exact absurd (show false = true from hs) Bool.false_ne_true
  | _ => cases y <;> exact absurd (show false = true from hs) Bool.false_ne_true
theorem op_ne : OpR X (compareOp .NotEq) rNe := by
  intro pins s σ H x y v u Q I rx ry h
  obtain ⟨hs, q⟩ := h
  cases x with
  | non =>
    cases rx
    cases y with
    | non => cases ry; exact PySem.EqNone.ne_none_none (fin_bl I q (by simp))
    | bl j => cases ry; exact PySem.EqNone.ne_none_bool (fin_bl I q (by simp))
    | int j => obtain ⟨t', rfl⟩ := ry; exact PySem.EqNone.ne_none_int (fin_bl I q (by simp))
    | str j => obtain ⟨t', rfl⟩ := ry; exact PySem.EqNone.ne_none_str (fin_bl I q (by simp))
    | _ => exact absurd (show false = true from hs) Bool.false_ne_true
  | bl i =>
    cases rx
    cases y with
    | non => cases ry; exact PySem.EqNone.ne_bool_none (fin_bl I q (by simp))
    | bl j => cases ry; exact ne_bool (fin_bl I q (congrArg not dec_bl))
    | str j => obtain ⟨t', rfl⟩ := ry; exact PySem.EqMixed.ne_bool_str (fin_bl I q (by simp))
    | _ => exact absurd (show false = true from hs) Bool.false_ne_true
  | int i =>
    obtain ⟨t, rfl⟩ := rx
    cases y with
    | non => cases ry; exact PySem.EqNone.ne_int_none (fin_bl I q (by simp))
    | int j => obtain ⟨t', rfl⟩ := ry; exact ne_int (fin_bl I q (congrArg not dec_int))
    | str j => obtain ⟨t', rfl⟩ := ry; exact PySem.EqMixed.ne_int_str (fin_bl I q (by simp))
    | _ => exact absurd (show false = true from hs) Bool.false_ne_true
  | str i =>
    obtain ⟨t, rfl⟩ := rx
    cases y with
    | non => cases ry; exact PySem.EqNone.ne_str_none (fin_bl I q (by simp))
    | bl j => cases ry; exact PySem.EqMixed.ne_str_bool (fin_bl I q (by simp))
    | int j => obtain ⟨t', rfl⟩ := ry; exact PySem.EqMixed.ne_str_int (fin_bl I q (by simp))
    | str j => obtain ⟨t', rfl⟩ := ry; exact ne_str (fin_bl I q (congrArg not dec_str))
    | _ => exact absurd (show false = true from hs) Bool.false_ne_true
  | byt i =>
    obtain ⟨t, rfl⟩ := rx
    cases y with
    | byt j => obtain ⟨t', rfl⟩ := ry; exact PySem.W.ne_bytes (fin_bl I q (congrArg not dec_byt))
    | _ => exact absurd (show false = true from hs) Bool.false_ne_true
  | _ => cases y <;> exact absurd (show false = true from hs) Bool.false_ne_true

theorem op_lt : OpR X (compareOp .Lt) (rI0 fun i j => .bl (decide (i < j))) := opB0 fun _ _ _ _ _ _ _ q => lt_int q
theorem op_gt : OpR X (compareOp .Gt) (rI0 fun i j => .bl (decide (j < i))) := opB0 fun _ _ _ _ _ _ _ q => gt_int q
theorem nomark (b : Expr) {op : CmpOp} (h : op ≠ .In := by decide) (h2 : op ≠ .NotIn := by decide) : behindInMarks op b = false := by
  have e1 : (op == CmpOp.In) = false := by cases op <;> first | rfl | exact absurd rfl h
  have e2 : (op == CmpOp.NotIn) = false := by cases op <;> first | rfl | exact absurd rfl h2
  cases b <;> simp [behindInMarks, e1, e2]
/-- a comparison as a value; hm: nomark b, or (for in, not in) by with_unfolding_all rfl -/
theorem pe_cmpR {op : CmpOp} {r : R2} (ho : OpR X (compareOp op) r) (ha : PE X a ta) (hb : PE X b tb) (hm : behindInMarks op b = false) : PE X (.Compare a [op] [b] pos) (tOp r ta tb) := by
  intro pins s σ H Q I h
  exact wpAny_Compare1 (binT ha hb I h fun v u s2 x y H2 I2 rx ry q => ho pins s2 σ H2 x y v u Q I2 rx ry q) hm
/-- a reading of a value as a test -/
def tTest (t : TE) : TT := fun σ H Q => t σ H fun x H' => ∃ k, x = .bl k ∧ Q k H'
theorem pt_cmpR {op : CmpOp} {r : R2} (ho : OpR X (compareOp op) r) (ha : PE X a ta) (hb : PE X b tb) (hm : behindInMarks op b = false) : PT X (.Compare a [op] [b] pos) (tTest (tOp r ta tb)) := by
  intro pins s σ H Q I h
  refine wpAny_isTrue_Compare1 (thn (ha pins s σ H _ I h) fun v s1 ⟨x, H1, I1, r1, q1⟩ => thn (hb pins s1 σ H1 _ I1 q1) fun u s2 ⟨y, H2, I2, r2, q2⟩ =>
    thn (ho pins s2 σ H2 x y v u _ I2 r1 r2 q2) fun c s3 ⟨z, H3, I3, r3, k, e, q3⟩ => ?_) hm
  subst e
  cases r3
  exact wpAny_truthy_bool ⟨H3, I3, q3⟩
/-! ### truth -/
/-- a value's truth by the abstract heap -/
def TruV (K : PySem.W.Frag) (x : V) (H : Hp) (k : Bool) : Prop :=
  match x with
  | .non => k = false
  | .bl b => k = b
  | .int i => k = (i != 0)
  | .str y => y.length ≤ sizeLine ∧ k = ((y.length : Int) != 0)
  | .byt y => y.size ≤ sizeLine ∧ k = ((y.size : Int) != 0)
  | .ref p => (∃ xs, SqL K H p xs ∧ k = !xs.isEmpty) ∨ (∃ xs, SqT K H p xs ∧ k = !xs.isEmpty) ∨ ∃ kvs, H p = some (.dK kvs) ∧ k = !kvs.isEmpty
  | _ => False
theorem isEmpty_kv {κ : Type} {kvs : List (κ × V)} {vs : List (κ × Value)} (r : KV kvs vs) : (!vs.isEmpty) = !kvs.isEmpty := by
  cases r <;> rfl
theorem isEmpty_of {xs : List V} {its : List Value} (r : Vals xs its) : (!its.toArray.isEmpty) = !xs.isEmpty := by
  cases r <;> simp
theorem line63 : (sizeLine : Nat) < 2 ^ 63 := by rw [sizeLine_eq]; decide
theorem tru_ok : TruR X (fun x H Q => ∃ k, TruV X.K x H k ∧ Q k H) := by
  intro pins s σ H x v Q I rx h
  obtain ⟨k, e, q⟩ := h
  have hl := line63
  have hs : sizeLine = 16777216 := sizeLine_eq
  cases x with
  | non =>
    cases rx
    have e' : k = false := e
    subst e'
    exact truthy_none ⟨H, I, q⟩
  | bl b =>
    cases rx
    have e' : k = b := e
    subst e'
    exact wpAny_truthy_bool ⟨H, I, q⟩
  | int i =>
    obtain ⟨t, rfl⟩ := rx
    have e' : k = (i != 0) := e
    subst e'
    exact PySem.P.truthy_int ⟨H, I, q⟩
  | str y =>
    obtain ⟨t, rfl⟩ := rx
    obtain ⟨hy, e'⟩ : y.length ≤ sizeLine ∧ k = ((y.length : Int) != 0) := e
    subst e'
    exact PySem.P.truthy_str (by omega) ⟨H, I.tok _, q⟩
  | byt y =>
    obtain ⟨t, rfl⟩ := rx
    obtain ⟨hy, e'⟩ : y.size ≤ sizeLine ∧ k = ((y.size : Int) != 0) := e
    subst e'
    exact PySem.W.truthy_bytes (by omega) ⟨H, I.tok _, q⟩
  | ref p =>
    cases rx
    have e' : (∃ xs, SqL X.K H p xs ∧ k = !xs.isEmpty) ∨ (∃ xs, SqT X.K H p xs ∧ k = !xs.isEmpty) ∨ ∃ kvs, H p = some (.dK kvs) ∧ k = !kvs.isEmpty := e
    rcases e' with ⟨xs, hx, e'⟩ | ⟨xs, hx, e'⟩ | ⟨kvs, hx, e'⟩
    · subst e'
      obtain ⟨its, r, pl, hz⟩ := I.list hx
      have hlen := r.length
      exact wpAny_truthy_list pl.isList (by simp only [List.size_toArray]; omega) ⟨H, I.tok _, by rw [isEmpty_of r]; exact q⟩
    · subst e'
      obtain ⟨its, r, pl, hz⟩ := I.tuple hx
      have hlen := r.length
      exact truthy_tuple pl (by simp only [List.size_toArray]; omega) ⟨H, I.tok _, by rw [isEmpty_of r]; exact q⟩
    · subst e'
      obtain ⟨hz, hS, vs, r, m⟩ : kvs.length ≤ sizeLine ∧ (p == sysModules) = false ∧ ∃ vs, KV kvs vs ∧ s.heap.DictOf (mixKind X.prog X.w) p vs := I.hok p _ hx
      have hlen : kvs.length = vs.length := Paired.length r
      exact wpAny_truthy_dict hS m (by omega) ⟨H, I.tok _, by rw [isEmpty_kv r]; exact q⟩
  | _ => exact (show False from e).elim
/-- any expression whose test is its value's truth (a name, a call, a subscript, a field ..: he by fun _ => rfl) -/
theorem pt_truth (ha : PE X a ta) (he : ∀ whole, isTrue a X.env whole = (do let v ← whole; standAt a.pos; holding [v] (truthy v))) :
    PT X a (fun σ H Q => ta σ H fun x H' => ∃ k, TruV X.K x H' k ∧ Q k H') := by
  intro pins s σ H Q I h
  exact isTrue_plain (thn (ha pins s σ H _ I h) fun v s1 ⟨x, H1, I1, r1, q1⟩ => tru_ok pins s1 σ H1 x v Q I1 r1 q1) (he _)

/-! ### strs and bytes -/
/-! ### scalar builtins, by CallR -/
theorem vals1 {x : V} {us : List Value} (r : Vals [x] us) : ∃ u, us = [u] ∧ RelV x u := by
  cases r with
  | cons r1 r2 => cases r2; exact ⟨_, rfl, r1⟩
end
end L2

namespace L2
open PySem PySem.Spec PyProof.Rows

/-! ### an instance, its attributes a map -/
structure ObjM (h : Heap) (x dx C : Addr) (mA : Str → Option Value) : Prop where
  obj : h.get? x = some (PySem.W.instObj C dx)
  ns : h.Ns1 dx mA
  ne : dx ≠ x

section
variable {prog : Program} {w : World} {A : Around} {E : Value → Shared → Prop} {s : Shared} {K : PySem.W.Frag} {x dx C f : Addr} {mA : Str → Option Value} {name : Str} {v : Value}

end

/-! ### the attributes as a list of pairs -/
section
variable {P : Program} {w : World} {H H' : Hp} {h h' : Heap} {a C dx : Addr} {fs fs' : List (Str × V)}
end

/-! ### what of the text a class must have -/
structure Cls (K : PySem.W.Frag) (C : Addr) : Prop where
  pg : PySem.W.plainGet K C Str.empty = true
  hd : PySem.W.hasDictIn K C = true
  po : PySem.W.plainOver K C = true
  sa : PySem.W.findIn K (.ref C) "__setattr__" = some (some (.builtin "object.__setattr__"))
/-- a constant of the class -/
structure Con (K : PySem.W.Frag) (C : Addr) (f : Str) (v : V) (u : Value) : Prop where
  at_ : PySem.W.findIn K (.ref C) f = some (some u)
  rel : RelV v u
  get : PySem.W.specialIn K u "__get__" = some none
  cp : PySem.W.copiedNames.contains f = false
/-- a method: a plain def of the class or of one above it -/
structure Meth (K : PySem.W.Frag) (C : Addr) (m : Str) (f : Addr) : Prop where
  at_ : PySem.W.findIn K (.ref C) m = some (some (.ref f))
  fn : PySem.W.isFn K (.ref f) = true
  kp : PySem.W.keepIn K (.ref f) = true

section
variable {X : Cx} {pins : List (Addr × Obj)} {σ : St} {H : Hp} {s : Shared} {a C dx : Addr} {fs : List (Str × V)} {f : Str} {v : V} {A : Around} {E : Value → Shared → Prop}

end

/-! ### readings and rules -/
section
variable {X : Cx} {o e value : Expr} {f : Str} {pos pos' tpos : Pos} {ta tv : TE}
end

/-! ### isinstance -/
section
variable {X : Cx} {pins : List (Addr × Obj)} {σ : St} {H : Hp} {s : Shared} {A : Around} {E : Value → Shared → Prop} {Q : Value → Shared → Prop} {c : Value} {b : Bool}
/-- the type of a value, as the fragment's deciders take it; for an instance its class -/
inductive TyOf (K : PySem.W.Frag) (H : Hp) : V → Value → Prop where
  | non : TyOf K H .non (.type "NoneType")
  | bl (x : Bool) : TyOf K H (.bl x) (.type "bool")
  | int (i : Int) : TyOf K H (.int i) (.type "int")
  | str (x : Str) : TyOf K H (.str x) (.type "str")
  | flt (x : UInt64) : TyOf K H (.flt x) (.type "float")
  | lst {a : Addr} {xs : List V} (e : H a = some (.lst xs)) : TyOf K H (.ref a) (.type "list")
  | frz {a : Addr} {o : Obj} {xs : List V} (e : H a = some (.frz o (.lst xs))) : TyOf K H (.ref a) (.type "list")
  | tup {a : Addr} {xs : List V} (e : H a = some (.tup xs)) : TyOf K H (.ref a) (.type "tuple")
  | dK {a : Addr} {kvs : List (Key × V)} (e : H a = some (.dK kvs)) : TyOf K H (.ref a) (.type "dict")
  | dT {a : Addr} {kvs : List (List Key × V)} (e : H a = some (.dT kvs)) : TyOf K H (.ref a) (.type "dict")
  | ins {a C dx : Addr} {fs : List (Str × V)} (e : H a = some (.ins C dx fs)) (cl : Cls K C) (ha : PySem.W.findIn K (.ref C) "__class__" = some (some (.builtin "object.__class__")))
      (hn : PySem.W.specialIn K (.builtin "object.__class__") "__get__" = some (some (.builtin "getset_descriptor.__get__"))) (htk : PySem.W.takesIn K (.builtin "object.__class__") = some true)
      (hm : PySem.W.mroIn K C (.type "object") = some true) : TyOf K H (.ref a) (.ref C)
end
end L2

namespace L2
open PySem PySem.Spec PyProof.Rows

/-! ### room -/
structure Room (k : Nat) (A : Around) : Prop where
  hd : A.handled = none
  dp : A.depth + 3 * k + 5 < recursionLimit
  un : A.units + 16 * k + 200 < cLine
theorem Room.mono {j k : Nat} {A : Around} (r : Room k A) (h : j ≤ k) : Room j A := ⟨r.hd, by have := r.dp; omega, by have := r.un; omega⟩
theorem Room.deeper {k : Nat} {A : Around} (r : Room (k + 1) A) (env : Env) : Room k (A.deeper env) :=
  ⟨r.hd, by have := r.dp; show A.depth + 1 + 3 * k + 5 < _; omega, by have := r.un; show A.units + 3 + 16 * k + 200 < _; omega⟩
theorem Room.in1 {k : Nat} {A : Around} (r : Room (k + 1) A) : Room k A.in1 :=
  ⟨r.hd, by have := r.dp; show A.depth + 3 * k + 5 < _; omega, by have := r.un; show A.units + 1 + 16 * k + 200 < _; omega⟩
theorem Room.depth {k : Nat} {A : Around} (r : Room k A) : A.depth < recursionLimit := by have := r.dp; omega
theorem Room.units {k : Nat} {A : Around} (r : Room k A) : A.units + 64 < cLine := by have := r.un; omega
theorem Room.units0 {k : Nat} {A : Around} (r : Room k A) : A.units < cLine := by have := r.un; omega

/-! ### argument lists and displays -/
def tNil : TA := fun _ H Q => Q [] H
def tCons (ta : TE) (tr : TA) : TA := fun σ H Q => ta σ H fun x H1 => tr σ H1 fun xs H2 => Q (x :: xs) H2
section
variable {X : Cx} {e : Expr} {es : List Expr} {te : TE} {t : TA} {pos : Pos}
theorem pa_nil : PA X [] tNil := fun _ _ _ _ H Q I h => Calls.spliced_nil ⟨[], H, I, .nil, h⟩
theorem pa_cons (ha : PE X e te) (hr : PA X es t) (hs : starEach (e :: es) X.env = (false, eval e X.env) :: starEach es X.env := by rfl) : PA X (e :: es) (tCons te t) := by
  intro pos pins s σ H Q I h
  rw [hs]
  show wpAny _ _ (spliced ((false, eval e X.env) :: backTo pos (starEach es X.env))) _ _ s
  refine Calls.spliced_cons (thn (ha pins s σ H _ I h) fun u s1 ⟨x, H1, I1, r1, q1⟩ => ?_)
  exact thn (hr pos pins s1 σ H1 _ I1 q1) fun us s2 ⟨xs, H2, I2, r2, q2⟩ => ⟨x :: xs, H2, I2, .cons r1 r2, q2⟩

/-- a tuple, a list of written items -/
def tTup (t : TA) : TE := fun σ H Q => t σ H fun xs H1 => xs.length ≤ sizeLine ∧ ∀ p, H1 p = none → Q (.ref p) (upd H1 p (.tup xs))
def tLst (t : TA) : TE := fun σ H Q => t σ H fun xs H1 => xs.length ≤ sizeLine ∧ ∀ p, H1 p = none → Q (.ref p) (upd H1 p (.lst xs))
theorem pe_tup {x1} (h : PA X es t) : PE X (.Tuple es x1 pos) (tTup t) := by
  intro pins s σ H Q I hq
  refine wpAny_Tuple_spliced (thn (h pos pins s σ H _ I hq) fun us s1 ⟨xs, H1, I1, r, z, q⟩ => ⟨by rw [← r.length]; exact z, ?_⟩)
  have hf : H1 s1.heap.objs.size = none := I1.hok.fresh (Nat.le_refl _)
  refine ⟨.ref s1.heap.objs.size, upd H1 s1.heap.objs.size (.tup xs), I1.laid (t' := s1.toks) (fun b u e => Heap.get?_push_of_some _ e) (Nat.le_refl _) ?_, rfl, q _ hf⟩
  exact ⟨z, us, r, ⟨_, Heap.get?_push_size _ rfl, rfl, _, rfl⟩⟩
theorem pe_lst (h : PA X es t) : PE X (.List es pos) (tLst t) := by
  intro pins s σ H Q I hq
  refine wpAny_List_spliced (thn (h pos pins s σ H _ I hq) fun us s1 ⟨xs, H1, I1, r, z, q⟩ => ⟨by rw [← r.length]; exact z, ?_⟩)
  have hf : H1 s1.heap.objs.size = none := I1.hok.fresh (Nat.le_refl _)
  refine ⟨.ref s1.heap.objs.size, upd H1 s1.heap.objs.size (.lst xs), I1.laid (t' := s1.toks) (fun b u e => Heap.get?_push_of_some _ e) (Nat.le_refl _) ?_, rfl, q _ hf⟩
  exact ⟨z, us, 0, r, Heap.get?_push_size _ rfl⟩
end

/-! ### what a def promises -/
/-- a def's promise: the bound arguments in the parameters' order, the heap, the wanted end, the wanted exception -/
abbrev Sp := List V → Hp → VK → XK → Prop
/-- how an exception lies behind a call (file 08 gives it): the callers' frames, abstract heap and state ahead of the call, the wish, the exception, the state -/
abbrev CXT := List Env → Hp → Shared → XK → Value → Shared → Prop

/-- the state at a call -/
structure Env0 (P : Program) (w : World) (K : PySem.W.Frag) (mg : Str → Option Value) (base : Heap) (A : Around) (outer : List Env) (s : Shared) (H : Hp) : Prop where
  frames : A.frames = some outer
  mod : Mod K mg base
  bs : ∀ b o, base.get? b = some o → s.heap.get? b = some o ∧ H b = none
  bsz : base.objs.size ≤ s.heap.objs.size
  funs : s.heap.FunFrames base outer
  frf : ∀ b ∈ frs outer, H b = none
  hok : HOk P w H s.heap
  bare : AllBare s.gens
/-- a call's end -/
def CE (outer : List Env) (P : Program) (w : World) (H : Hp) (s : Shared) (Q : VK) (u : Value) (s' : Shared) : Prop :=
  ∃ v H', s'.os = s.os ∧ AllBare s'.gens ∧ Un (frs outer) [] H H' s.heap s'.heap ∧ HOk P w H' s'.heap ∧ RelV v u ∧ Q v H'
def CR (CX : CXT) (outer : List Env) (P : Program) (w : World) (H : Hp) (s : Shared) (Q : VK) (E : XK) (r : Result) (s' : Shared) : Prop :=
  match r with
  | .ok (.ret u) => CE outer P w H s Q u s'
  | .ok _ => False
  | .error e => CX outer H s E e s'
structure FnOk (P : Program) (w : World) (K : PySem.W.Frag) (mg : Str → Option Value) (base : Heap) (CX : CXT) (k : Nat) (f : Addr) (fd : FuncData) (ps : List Str) (sp : Sp) : Prop where
  len : ∀ vs H Q E, sp vs H Q E → vs.length = ps.length
  run : ∀ (A : Around) (outer : List Env) (s : Shared) (H : Hp) (args : Args) (us : List Value) (vs : List V) (Q : VK) (E : XK), Room k A → Env0 P w K mg base A outer s H → BindsTo s fd args (ps.zip us) → Vals vs us → sp vs H Q E →
    codeAny (model P w) A (.call (.ref f) args) (CR CX outer P w H s Q E) s
theorem FnOk.mono {P : Program} {w : World} {K : PySem.W.Frag} {mg : Str → Option Value} {base : Heap} {CX : CXT} {j k : Nat} {f : Addr} {fd : FuncData} {ps : List Str} {sp : Sp} (F : FnOk P w K mg base CX j f fd ps sp) (h : j ≤ k) :
    FnOk P w K mg base CX k f fd ps sp := ⟨F.len, fun A outer s H args us vs Q E hr => F.run A outer s H args us vs Q E (hr.mono h)⟩
theorem Env0.in1 {P : Program} {w : World} {K : PySem.W.Frag} {mg : Str → Option Value} {base : Heap} {A : Around} {outer : List Env} {s : Shared} {H : Hp} (e : Env0 P w K mg base A outer s H) :
    Env0 P w K mg base A.in1 outer s H := ⟨e.frames, e.mod, e.bs, e.bsz, e.funs, e.frf, e.hok, e.bare⟩

section
variable {X : Cx} {pins : List (Addr × Obj)} {σ : St} {H : Hp} {s s' : Shared}
/-- from a body: what a callee wants -/
theorem Inv.env0 (I : Inv X pins σ H s) : Env0 X.prog X.w X.K X.mg X.base X.A X.stack s H :=
  ⟨I.ok.frames, I.ok.mod, I.bs, Nat.le_trans I.ok.bsz I.sz, I.stack, I.stkFree, I.hok, I.bare⟩
/-- behind a call -/
theorem Inv.after {Q : VK} {u : Value} (I : Inv X pins σ H s) (h : CE X.stack X.prog X.w H s Q u s') : EP X pins σ Q u s' := by
  obtain ⟨v, H', os, bare, un, hok, r, q⟩ := h
  obtain ⟨hh, g, d, t, os'⟩ := s'
  obtain rfl : os' = s.os := os
  exact ⟨v, H', I.call (h' := hh) (g' := g) (d' := d) (t' := t) (ch := []) un hok bare (fun b z => absurd z (by simp)), r, q⟩
end

/-! ### calls -/
/-- f(..): the written arguments, then the defaults dvs; E: what is wanted of an exception -/
def tCall (sp : Sp) (dvs : List V) (E : XK) (t : TA) : TE := fun σ H Q => t σ H fun vs H1 => sp (vs ++ dvs) H1 Q E
/-- how the parameters are bound: us the positional arguments, kw the keywords' values by name, ds the defaults that fill up -/
def Binds (K : PySem.W.Frag) (fd : FuncData) (ps : List Str) (ds : List Value) : Prop :=
  ∀ (s : Shared) (us : List Value), K.In s.heap → (us ++ ds).length = ps.length → BindsTo s fd ⟨us, []⟩ (ps.zip (us ++ ds))
/-- every parameter is given -/
theorem Binds.all {K : PySem.W.Frag} {fd : FuncData} {ps : List Str} (h : ∀ us : List Value, us.length = ps.length → bindArgs fd ⟨us, []⟩ = pure (ps.zip us)) : Binds K fd ps [] := fun s us _ hl => by
  rw [List.append_nil] at hl ⊢
  exact .of_eq (h us hl)

/-- an exception of a callee reaches what this body wants of exceptions -/
def Passes (CX : CXT) (X : Cx) (E : XK) : Prop := ∀ (pins : List (Addr × Obj)) (σ : St) (H : Hp) (s : Shared) (e : Value) (s' : Shared), Inv X pins σ H s → CX X.stack H s E e s' → X.xe e s'

section
variable {X : Cx} {CX : CXT} {k : Nat} {f C : Addr} {fd : FuncData} {ps : List Str} {sp : Sp} {dvs : List V} {ds : List Value} {E : XK} {x m : Str} {p pos apos : Pos} {e o : Expr} {es : List Expr} {ta : TE} {t : TA}

/-- the callee runs -/
theorem run_fn {pins : List (Addr × Obj)} {σ : St} {H : Hp} {s : Shared} {Q : VK} {us : List Value} {vs : List V} (F : FnOk X.prog X.w X.K X.mg X.base CX k f fd ps sp) (hr : Room k X.A) (hb : Binds X.K fd ps ds) (hd : Vals dvs ds) (hx : Passes CX X E)
    (I : Inv X pins σ H s) (r : Vals vs us) (h : sp (vs ++ dvs) H Q E) : wpAny (model X.prog X.w) X.A (call (.ref f) us) (EP X pins σ Q) X.xe s := by
  have r2 : Vals (vs ++ dvs) (us ++ ds) := r.append hd
  have hl : (us ++ ds).length = ps.length := by rw [← r2.length]; exact F.len _ _ _ _ h
  refine wpAny_call (codeAny_mono (F.run X.A X.stack s H ⟨us, []⟩ (us ++ ds) (vs ++ dvs) Q E hr I.env0 (hb s us I.kIn hl) r2 h) fun r s' hq => ?_)
  cases r with
  | error e => exact hx pins σ H s e s' I hq
  | ok fl =>
    cases fl with
    | ret u => exact I.after hq
    | next => exact False.elim hq
    | brk => exact False.elim hq
    | cont => exact False.elim hq

theorem pe_call (F : FnOk X.prog X.w X.K X.mg X.base CX k f fd ps sp) (hr : Room k X.A) (hg : Gl X x) (hm : X.mg x = some (.ref f)) (hk : PySem.W.keepIn X.K (.ref f) = true) (hb : Binds X.K fd ps ds) (hd : Vals dvs ds) (hx : Passes CX X E)
    (ha : PA X (e :: es) t) (hdb : (x == ("__debug__" : Str)) = false := by decide) (he : starEach (e :: es) X.env = (false, eval e X.env) :: starEach es X.env := by rfl) (hpl : (backTo pos (starEach es X.env)).any (·.1) = false := by rfl) :
    PE X (.Call (.Name x p) (e :: es) [] pos) (tCall sp dvs E t) := by
  intro pins s σ H Q I h
  refine wpAny_Call_Name_kw (ld_glob I hg hm ?_ hdb)
  refine PySem.W.callWith_K (h₀ := X.base) I.ok.mod.kin hk (thn (ha pos pins s σ H _ I h) fun us s1 ⟨vs, H1, I1, r, q⟩ => ⟨I1.kIn, ?_⟩) he hpl
  exact run_fn F hr hb hd hx I1 r q
/-- what a class must have to be made -/
structure Mk (K : PySem.W.Frag) (C f : Addr) : Prop where
  makes : PySem.W.makesIn K C = true
  init : PySem.W.findIn K (.ref C) "__init__" = some (some (.ref f))
  fn : PySem.W.isFn K (.ref f) = true
  kp : PySem.W.keepIn K (.ref C) = true

end

/-! ### keywords -/
/-- the values of the keywords, from the left -/
def PK (X : Cx) (kws : List Keyword) (t : TA) : Prop :=
  ∀ (pos : Pos) (pins : List (Addr × Obj)) (s : Shared) (σ : St) (H : Hp) (Q : List V → Hp → Prop), Inv X pins σ H s → t σ H Q → wpAny (model X.prog X.w) X.A (evalAll ((backToKw pos (keywordEach kws X.env)).map (·.2))) (AP X pins σ Q) X.xe s
section
variable {X : Cx} {CX : CXT} {k : Nat} {f C : Addr} {fd : FuncData} {ps ks : List Str} {sp : Sp} {E : XK} {x m : Str} {p pos apos kpos : Pos} {e o : Expr} {es : List Expr} {kws : List Keyword} {te ta : TE} {t tk : TA} {nm : Option Str}
theorem pk_nil : PK X [] tNil := fun _ _ _ _ H Q I h => wpAny_evalAll_nil ⟨[], H, I, .nil, h⟩
theorem pk_cons (ha : PE X e te) (hr : PK X kws t) : PK X (⟨nm, e, kpos⟩ :: kws) (tCons te t) := by
  intro pos pins s σ H Q I h
  show wpAny _ _ (evalAll ((do let v ← eval e X.env; standAt pos; pure v) :: (backToKw pos (keywordEach kws X.env)).map (·.2))) _ _ s
  refine wpAny_evalAll_cons (wpAny_bind (thn (ha pins s σ H _ I h) fun u s1 ⟨x, H1, I1, r1, q1⟩ => wpAny_bind (wpAny_standAt (wpAny_pure ?_))))
  exact thn (hr pos pins s1 σ H1 _ I1 q1) fun us s2 ⟨xs, H2, I2, r2, q2⟩ => ⟨x :: xs, H2, I2, .cons r1 r2, q2⟩

/-- how a call with keywords binds: g puts the positional values us and the keywords' values ws (names ks) in the parameters' order, defaults among them -/
structure KBinds (K : PySem.W.Frag) (fd : FuncData) (ps ks : List Str) (g : List Value → List Value → List Value) (gV : List V → List V → List V) : Prop where
  to : ∀ (s : Shared) (us ws : List Value), K.In s.heap → (g us ws).length = ps.length → BindsTo s fd ⟨us, ks.zip ws⟩ (ps.zip (g us ws))
  rel : ∀ {vs : List V} {us : List Value} {zs : List V} {ws : List Value}, Vals vs us → Vals zs ws → Vals (gV vs zs) (g us ws)
variable {g : List Value → List Value → List Value} {gV : List V → List V → List V}
end

/-! ### a def's body keeps its promise -/
/-- names: the parameters first -/
structure FnScope (N P : List Str) (sc : Scope) : Prop where
  kind : sc.kind = .function
  co : sc.isCoroutine = false
  gen : sc.isGenerator = false
  nd : N.Nodup
  pre : N.take P.length = P
  par : ∀ x ∈ P, sc.names.lookup x = some .local ∨ sc.names.lookup x = some .cell
  nofree : ∀ y ∈ sc.names, y.2 ≠ .free

theorem bindL_out {kindOf : Str → Option NameKind} {x : Str} : ∀ {binds : List (Str × Value)} {m : Str → Option Value}, (∀ v, (x, v) ∉ binds) → bindL kindOf binds m x = m x
  | [], _, _ => rfl
  | (n, v) :: r, m, h => by
    unfold bindL
    rw [bindL_out fun w hw => h w (List.mem_cons_of_mem _ hw)]
    split
    · have : x ≠ n := by rintro rfl; exact h v List.mem_cons_self
      simp [this]
    · rfl
theorem bindC_out {kindOf : Str → Option NameKind} {x : Str} : ∀ {binds : List (Str × Value)} {m : Str → Option Value}, (∀ v, (x, v) ∉ binds) → bindC kindOf binds m x = m x
  | [], _, _ => rfl
  | (n, v) :: r, m, h => by
    unfold bindC
    rw [bindC_out fun w hw => h w (List.mem_cons_of_mem _ hw)]
    split
    · rfl
    · have : x ≠ n := by rintro rfl; exact h v List.mem_cons_self
      simp [this]
theorem bindL_get {kindOf : Str → Option NameKind} {x : Str} {v : Value} : ∀ {P : List Str} {vs : List Value} {i : Nat} {m : Str → Option Value}, P.Nodup → P[i]? = some x → vs[i]? = some v → kindOf x = some .local →
    bindL kindOf (P.zip vs) m x = some v
  | [], _, _, _, _, h, _, _ => by simp at h
  | _ :: _, [], _, _, _, _, h, _ => by simp at h
  | p :: P, w :: vs, 0, m, nd, h1, h2, hk => by
    simp at h1 h2; subst h1; subst h2
    show bindL kindOf ((p, w) :: P.zip vs) m p = _
    unfold bindL
    rw [bindL_out fun v hv => (List.nodup_cons.mp nd).1 (List.of_mem_zip hv).1, if_pos hk]
    simp
  | p :: P, w :: vs, i + 1, m, nd, h1, h2, hk => by
    show bindL kindOf ((p, w) :: P.zip vs) m x = _
    unfold bindL
    exact bindL_get (i := i) (List.nodup_cons.mp nd).2 (by simpa using h1) (by simpa using h2) hk
theorem bindC_get {kindOf : Str → Option NameKind} {x : Str} {v : Value} : ∀ {P : List Str} {vs : List Value} {i : Nat} {m : Str → Option Value}, P.Nodup → P[i]? = some x → vs[i]? = some v → kindOf x ≠ some .local →
    bindC kindOf (P.zip vs) m x = some v
  | [], _, _, _, _, h, _, _ => by simp at h
  | _ :: _, [], _, _, _, _, h, _ => by simp at h
  | p :: P, w :: vs, 0, m, nd, h1, h2, hk => by
    simp at h1 h2; subst h1; subst h2
    show bindC kindOf ((p, w) :: P.zip vs) m p = _
    unfold bindC
    rw [bindC_out fun v hv => (List.nodup_cons.mp nd).1 (List.of_mem_zip hv).1, if_neg hk]
    simp
  | p :: P, w :: vs, i + 1, m, nd, h1, h2, hk => by
    show bindC kindOf ((p, w) :: P.zip vs) m x = _
    unfold bindC
    exact bindC_get (i := i) (List.nodup_cons.mp nd).2 (by simpa using h1) (by simpa using h2) hk

/-- the names' values at the entry -/
def start (N : List Str) (vs : List V) : St := vs.map some ++ List.replicate (N.length - vs.length) none

/-- the context of a def's body, at its entry; an exception leaves the frame, then lies as CX says -/
def cxOf (CX : CXT) (P : Program) (w : World) (K : PySem.W.Frag) (mg : Str → Option Value) (base : Heap) (N : List Str) (qual : Str) (scope : Scope) (f : Addr) (cd : Value) (A : Around) (outer : List Env) (s : Shared) (H : Hp) (E : XK) : Cx where
  prog := P
  w := w
  K := K
  mg := mg
  base := base
  A := A.deeper (envOfC qual scope s.heap.objs.size f cd)
  N := N
  s_0 := s
  H_0 := H
  env := envOfC qual scope s.heap.objs.size f cd
  outer := outer
  stack := envOfC qual scope s.heap.objs.size f cd :: outer
  ex := []
  calm := true
  fn := fun _ => true
  pn := []
  xe := fun e s' => wpAny (model P w) (A.deeper (envOfC qual scope s.heap.objs.size f cd)) (leaving (envOfC qual scope s.heap.objs.size f cd) e) (fun _ s'' => CX outer H s E e s'') (fun e' s'' => CX outer H s E e' s'') s'

theorem cell_has {sc : Scope} {n : Nat} {x : Str} (h : sc.names.lookup x = some .cell) : ∃ c, (cellsFrom n sc.names []).lookup x = some c := by
  have q := PySem.W.cellsFrom_some sc.names n [] (.inl h)
  exact Option.isSome_iff_exists.mp q

theorem inv_start {CX : CXT} {P : Program} {w : World} {K : PySem.W.Frag} {mg : Str → Option Value} {base : Heap} {N ps : List Str} {qual : Str} {scope : Scope} {f : Addr} {cd : Value} {A : Around} {outer : List Env} {s s1 : Shared} {H : Hp} {E : XK} {us : List Value} {vs : List V}
    (S : FnScope N ps scope) (hd : A.handled = none) (e0 : Env0 P w K mg base A outer s H) (hl : vs.length = ps.length) (r : Vals vs us)
    (x : InCallC s s.heap.objs.size (bindL (envOfC qual scope s.heap.objs.size f cd).kindOf (ps.zip us) fun _ => none) (cellsFrom (s.heap.objs.size + 1) scope.names []) (bindC (envOfC qual scope s.heap.objs.size f cd).kindOf (ps.zip us) fun _ => none) s1) :
    Inv (cxOf CX P w K mg base N qual scope f cd A outer s H E) [] (start N vs) H s1 := by
  have hpl : ps.length ≤ N.length := by have := congrArg List.length S.pre; rw [List.length_take] at this; omega
  obtain ⟨h1, tk, rfl, hk⟩ := x.done
  have noA : ∀ b : Addr, b ∉ (cxOf CX P w K mg base N qual scope f cd A outer s H E).ex := fun b z => absurd (show b ∈ ([] : List Addr) from z) (by simp)
  refine ⟨⟨e0.mod, S.kind, rfl, rfl, Nat.le_refl _, fun y z c h1 h2 => ?_, fun y hy => ?_, fun y c _ h => ?_, fun _ => hd, Around.frames_deeper e0.frames, .inr ⟨rfl, rfl⟩, fun b z => absurd z (noA b), e0.bs, e0.bsz, fun b _ _ => noA b, fun b z => absurd z (noA b), e0.funs, e0.frf⟩,
    rfl, e0.bare, Un.kept hk, ⟨_, x.toInCall.ns, fun i y v h1 h2 h3 => ?_⟩, fun y c h => ⟨_, x.cell y c h⟩, e0.hok.fresh (Nat.le_refl _), fun y c h => ?_, fun p hp => absurd (show p ∈ ([] : List (Addr × Obj)) from hp) (by simp), e0.hok.kept hk, ?_⟩
  · exact name_of_addr x.apart (PySem.mem_of_lookup h1) (PySem.mem_of_lookup h2)
  · have hy : scope.names.lookup y = some .cell ∨ scope.names.lookup y = some .free := hy
    rcases hy with hy | hy
    · exact cell_has hy
    · exact absurd rfl (S.nofree _ (PySem.mem_of_lookup hy))
  · exact Nat.le_of_lt (x.above y c (PySem.mem_of_lookup h))
  · have hi : i < vs.length := by
      unfold start at h2
      by_cases hi : i < vs.length
      · exact hi
      · rw [List.getElem?_append_right (by simpa using hi)] at h2
        rw [List.getElem?_replicate] at h2
        split at h2 <;> cases h2
    have ha : vs[i]? = some v := by
      unfold start at h2
      rw [List.getElem?_append_left (by simpa using hi), List.getElem?_map] at h2
      cases e : vs[i]? with
      | none => rw [e] at h2; cases h2
      | some a => rw [e] at h2; cases h2; rfl
    obtain ⟨u, hu, rv⟩ := r.get ha
    have hp : ps[i]? = some y := by
      rw [← S.pre, List.getElem?_take_of_lt (by omega)]; exact h1
    have ndP : ps.Nodup := by rw [← S.pre]; exact S.nd.sublist (List.take_sublist _ _)
    refine ⟨u, rv, ?_⟩
    rcases S.par y (List.mem_of_getElem? hp) with k | k
    · exact .inl ⟨k, bindL_get ndP hp hu k⟩
    · obtain ⟨c, e⟩ := cell_has (n := s.heap.objs.size + 1) k
      refine .inr ⟨.inl k, c, e, ?_⟩
      have q := x.cell y c e
      rw [bindC_get ndP hp hu (by show scope.names.lookup y ≠ _; rw [k]; decide)] at q
      exact q
  · exact e0.hok.fresh (Nat.le_of_lt (x.above y c (PySem.mem_of_lookup h)))
  · unfold start
    show _ = N.length
    rw [List.length_append, List.length_map, List.length_replicate]
    omega

/-- THE RULE: a def (or a method) of the text, by its body. The body's reading t is chosen for each entry; it is run at the parameters' values -/
theorem fn_of {CX : CXT} {P : Program} {w : World} {K : PySem.W.Frag} {mg : Str → Option Value} {base : Heap} {k : Nat} {f : Addr} {name qual : Str} {params : Arguments} {body : List Stmt} {scope : Scope} {dV kV doc pm cdv ct oc : Value} {an od : Option Addr}
    {osl : Array (Option Value)} {N ps : List Str} {sp : Sp} (lk : K.lookup f = some ⟨oc, od, .func (PySem.W.fnOf name qual params body scope dV kV doc pm an cdv ct), osl⟩) (hcd : PySem.W.codeIn K cdv qual = true) (S : FnScope N ps scope)
    (len : ∀ vs H Q E, sp vs H Q E → vs.length = ps.length)
    (hbody : ∀ (A : Around) (outer : List Env) (s : Shared) (H : Hp) (vs : List V) (Q : VK) (E : XK), Room k (A.deeper (envOfC qual scope s.heap.objs.size f cdv)) → sp vs H Q E →
      ∃ t, PSs (cxOf CX P w K mg base N qual scope f cdv A outer s H E) body t ∧ t { nx := fun _ H' => Q .non H', rt := Q } (start N vs) H) :
    FnOk P w K mg base CX (k + 1) f (PySem.W.fnOf name qual params body scope dV kV doc pm an cdv ct) ps sp := by
  refine ⟨len, fun A outer s H args us vs Q E hr e0 hb r hsp => ?_⟩
  have hl := len _ _ _ _ hsp
  have KX : K.In s.heap := e0.mod.kin.keeps fun b o e => (e0.bs b o e).1
  have lim : s.heap.NoLimit := e0.mod.nolimit.keeps fun b o e => (e0.bs b o e).1
  have hkind : ∀ y ∈ ps.zip us, scope.names.lookup y.1 = some .local ∨ (scope.names.lookup y.1 = some .cell ∧ ((cellsFrom (s.heap.objs.size + 1) scope.names []).lookup y.1).isSome = true) := fun ⟨n, v⟩ hy => by
    rcases S.par n (List.of_mem_zip hy).1 with q | q
    · exact .inl q
    · exact .inr ⟨q, PySem.W.cellsFrom_some _ _ _ (.inl q)⟩
  refine codeAny_call_function hr.depth (KX _ _ lk) rfl S.co S.gen rfl (PySem.W.codeRec_of KX hcd) (hb _ _ _ _ ?_)
  refine wpAny_newFunctionEnv_cells S.kind hkind fun env he s1 x => ?_
  subst he
  refine ⟨lim.keeps x.toInCall.keep, codeAny_func ?_⟩
  obtain ⟨t, ht, hq⟩ := hbody A outer s H vs Q E (hr.deeper _) hsp
  have I : Inv (cxOf CX P w K mg base N qual scope f cdv A outer s H E) [] (start N vs) H s1 := inv_start S hr.hd e0 hl r x
  refine wpAny_mono (ht [] s1 (start N vs) H _ I hq) (fun fl s' hs => ?_) fun e s' hs => hs
  have fin : ∀ {σ' : St} {H' : Hp} {v : V} {u : Value}, Inv (cxOf CX P w K mg base N qual scope f cdv A outer s H E) [] σ' H' s' → RelV v u → Q v H' → CE outer P w H s Q u s' :=
    fun {σ' H' v u} J rv q => ⟨v, H', J.os, J.bare, J.base, J.hok, rv, q⟩
  cases fl with
  | ret u =>
    obtain ⟨v, σ', H', J, rv, q⟩ := hs
    exact fin J rv q
  | next =>
    obtain ⟨σ', H', J, q⟩ := hs
    exact fin (v := V.non) (u := Value.none) J rfl q
  | brk =>
    obtain ⟨_, _, _, q⟩ := hs
    exact False.elim q
  | cont =>
    obtain ⟨_, _, _, q⟩ := hs
    exact False.elim q
end L2

namespace L2
open PySem PySem.Spec PyProof.Rows
section
variable {X : Cx} {x : Str} {p pos : Pos} {e : Expr} {es : List Expr} {t : TA} {id T : String} {r : List V → Hp → VK → Prop}

def tCB (r : List V → Hp → VK → Prop) (t : TA) : TE := fun σ H Q => t σ H fun vs H1 => r vs H1 Q
/-- f(e, ..), f a built-in function -/
theorem pe_callB (hc : CallR X (.builtin id) r) (hg : Gl X x) (hm : X.mg x = none) (hv : bootBuiltins x = some (.builtin id)) (ha : PA X (e :: es) t) (hn : x ≠ "__name__" := by decide) (hdb : (x == ("__debug__" : Str)) = false := by decide)
    (he : starEach (e :: es) X.env = (false, eval e X.env) :: starEach es X.env := by rfl) (hpl : (backTo pos (starEach es X.env)).any (·.1) = false := by rfl) : PE X (.Call (.Name x p) (e :: es) [] pos) (tCB r t) := by
  intro pins s σ H Q I h
  refine wpAny_Call_Name_kw (ld_blt I hg hm hv ?_ hn hdb)
  exact PyProof.Rows.callWith_builtin1 (thn (ha pos pins s σ H _ I h) fun us s1 ⟨vs, H1, I1, r1, q1⟩ => hc pins s1 σ H1 vs us Q I1 r1 q1) he hpl
/-- T(e, ..), T a built-in type -/
theorem pe_callTy (hc : CallR X (.type T) r) (hg : Gl X x) (hm : X.mg x = none) (hv : bootBuiltins x = some (.type T)) (ha : PA X (e :: es) t) (hn : x ≠ "__name__" := by decide) (hdb : (x == ("__debug__" : Str)) = false := by decide)
    (he : starEach (e :: es) X.env = (false, eval e X.env) :: starEach es X.env := by rfl) (hpl : (backTo pos (starEach es X.env)).any (·.1) = false := by rfl) : PE X (.Call (.Name x p) (e :: es) [] pos) (tCB r t) := by
  intro pins s σ H Q I h
  refine wpAny_Call_Name_kw (ld_blt I hg hm hv ?_ hn hdb)
  exact PyProof.Rows.callWith_type1 (thn (ha pos pins s σ H _ I h) fun us s1 ⟨vs, H1, I1, r1, q1⟩ => hc pins s1 σ H1 vs us Q I1 r1 q1) he hpl
end
end L2

namespace HT
open PySem PyProof.Rows

theorem rcLt_int (A : Around) (s : Shared) (a : Int) (t : Tok) (c : Int) (u : Tok) (prog : Program) (w : World) (E : Value → Shared → Prop) (Q : Value → Shared → Prop) (h : Q (.bool (decide (a < c))) s) :
    wpAny (model prog w) A (richCompare .Lt (.int a t) (.int c u)) Q E s :=
  (PyProof.Rows.lt_int h : wpAny (model prog w) A (compareOp .Lt (.int a t) (.int c u)) Q E s)

section
open PySem.SeqAt
open PySem.AutoSeq1 (wpAny_loadPart')
open PySem.MeetsSeq PySem.MeetsSeq2 PySem.MeetsSeq3

end

section
variable {prog : Program} {w : World} {A : Around} {E : Value → Shared → Prop} {s : Shared}

/-! ### t[a:b], not the whole -/
/-- a slice's bound as a place among n (d where it is left out) -/
def sIx (n d : Nat) : Option Int → Nat
  | none => d
  | some v => if v < 0 then (v + (n : Int)).toNat else min v.toNat n
theorem sIx_nat (n d k : Nat) : sIx n d (some (k : Int)) = min k n := by
  show (if (k : Int) < 0 then ((k : Int) + (n : Int)).toNat else min (k : Int).toNat n) = min k n
  rw [if_neg (by omega), Int.toNat_natCast]
end
end HT

namespace L2
open PySem PySem.Spec PyProof.Rows

/-! ### the parts of a slice -/
section
variable {X : Cx} {e : Expr} {te : TE} {lo hi : Option Expr} {tl th : TO} {pos p2 : Pos}

/-- the items of xs[lo:hi] -/
def cutV (xs : List V) (lo hi : Option Int) : List V := (xs.drop (HT.sIx xs.length 0 lo)).take (HT.sIx xs.length xs.length hi - HT.sIx xs.length 0 lo)
/-! ### t < u, t + u -/
end
end L2

namespace L2
open PySem PySem.Spec PyProof.Rows

/-! ### places -/
/-- the place that an index of any sign means -/
def ixN (n : Nat) (i : Int) : Option Nat := if 0 ≤ i then (if i < n then some i.toNat else none) else if -(n : Int) ≤ i then some (i + n).toNat else none
def atI {α : Type} (xs : List α) (i : Int) : Option α := (ixN xs.length i).bind fun j => xs[j]?
theorem ixN_seq {n : Nat} {i : Int} {j : Nat} (h : ixN n i = some j) : seqIndex? i n = some j ∧ j < n ∧ -(n : Int) ≤ i ∧ i < n := by
  unfold ixN at h
  by_cases h0 : 0 ≤ i
  · rw [if_pos h0] at h
    by_cases h1 : i < n
    · rw [if_pos h1] at h
      have e : i.toNat = j := Option.some.inj h
      exact ⟨by rw [seqIndex_of h0 h1, e], by omega, by omega, h1⟩
    · rw [if_neg h1] at h; cases h
  · rw [if_neg h0] at h
    by_cases h1 : -(n : Int) ≤ i
    · rw [if_pos h1] at h
      have e : (i + n).toNat = j := Option.some.inj h
      exact ⟨by rw [seqIndex_neg (by omega) h1, e], by omega, h1, by omega⟩
    · rw [if_neg h1] at h; cases h
theorem atI_get {α : Type} {xs : List α} {i : Int} {v : α} (h : atI xs i = some v) : ∃ j, seqIndex? i xs.length = some j ∧ xs[j]? = some v ∧ j < xs.length ∧ -(xs.length : Int) ≤ i ∧ i < xs.length := by
  unfold atI at h
  cases e : ixN xs.length i with
  | none => rw [e] at h; cases h
  | some j =>
    rw [e] at h
    obtain ⟨h1, h2, h3, h4⟩ := ixN_seq e
    exact ⟨j, h1, h, h2, h3, h4⟩
theorem atI_nat {α : Type} {xs : List α} {j : Nat} {v : α} (h : xs[j]? = some v) : atI xs (j : Int) = some v := by
  have hj : j < xs.length := (List.getElem?_eq_some_iff.mp h).1
  have e : ixN xs.length (j : Int) = some j := by
    unfold ixN
    rw [if_pos (by omega), if_pos (by omega)]; simp
  unfold atI; rw [e]; exact h
theorem atI_last {α : Type} (xs : List α) (v : α) : atI (xs ++ [v]) (-1) = some v := by
  have hl : (xs ++ [v]).length = xs.length + 1 := by simp
  have e : ixN (xs ++ [v]).length (-1) = some xs.length := by
    unfold ixN
    rw [hl, if_neg (by decide), if_pos (by omega)]
    congr 1
    omega
  unfold atI
  rw [e]
  show (xs ++ [v])[xs.length]? = some v
  simp

/-! ### what may be subscripted -/
/-- what stands as an index of a plain subscript -/
def PlainIx (b : Expr) : Prop := ∀ o i, subscripted b false o i = operate [o, i] (getItem o i)
/-- a subscript by values -/
def IxR (X : Cx) (r : R2) : Prop :=
  ∀ (value slice : Expr) (pins : List (Addr × Obj)) (s : Shared) (σ : St) (H : Hp) (x y : V) (v u : Value) (Q : VK), Inv X pins σ H s → RelV x v → RelV y u → r x y H Q →
    subscripted slice false v u = operate [v, u] (getItem v u) → wpAny (model X.prog X.w) X.A (subscriptTail value slice v u) (EP X pins σ Q) X.xe s
/-- a call of a builtin's method by values: the receiver, the arguments -/
def MtR (X : Cx) (id : String) (r : V → List V → Hp → VK → Prop) : Prop :=
  ∀ (pins : List (Addr × Obj)) (s : Shared) (σ : St) (H : Hp) (x : V) (xs : List V) (v : Value) (us : List Value) (Q : VK), Inv X pins σ H s → RelV x v → Vals xs us → r x xs H Q →
    wpAny (model X.prog X.w) X.A (call (.builtin id) (v :: us)) (EP X pins σ Q) X.xe s
section
variable {X : Cx} {a b : Expr} {ta tb : TE} {pos : Pos}
theorem IxR.or {r r' : R2} (h : IxR X r) (h' : IxR X r') : IxR X (fun x y H Q => r x y H Q ∨ r' x y H Q) := by
  intro value slice pins s σ H x y v u Q I rx ry q hs
  rcases q with q | q
  · exact h value slice pins s σ H x y v u Q I rx ry q hs
  · exact h' value slice pins s σ H x y v u Q I rx ry q hs
/-- a[b] -/
theorem pe_ix {r : R2} (hr : IxR X r) (ha : PE X a ta) (hb : PE X b tb) (hs : PlainIx b) : PE X (.Subscript a b pos) (tOp r ta tb) := by
  intro pins s σ H Q I h
  exact Subscript_ (binT ha hb I h fun v u s2 x y H2 I2 rx ry q => hr a b pins s2 σ H2 x y v u Q I2 rx ry q (hs _ _))

def rIxL (K : PySem.W.Frag) : R2 := fun x y H Q => ∃ p xs i v, x = .ref p ∧ y = .int i ∧ SqL K H p xs ∧ atI xs i = some v ∧ Q v H
def rIxT (K : PySem.W.Frag) : R2 := fun x y H Q => ∃ p xs i v, x = .ref p ∧ y = .int i ∧ SqT K H p xs ∧ atI xs i = some v ∧ Q v H
def rIxS : R2 := fun x y H Q => ∃ z i c, x = .str z ∧ y = .int i ∧ z.length ≤ sizeLine ∧ atI z.cps.toList i = some c ∧ Q (.str ⟨#[c]⟩) H
theorem ix_list : IxR X (rIxL X.K) := by
  intro value slice pins s σ H x y v u Q I rx ry h hs
  obtain ⟨p, xs, i, z, rfl, rfl, hq, he, q⟩ := h
  cases rx
  obtain ⟨t, rfl⟩ := ry
  obtain ⟨its, r, pl, hz⟩ := I.list hq
  obtain ⟨j, h1, h2, h3, h4, h5⟩ := atI_get he
  obtain ⟨w, ew, rw'⟩ := r.get h2
  have hl := r.length
  have hn := line63
  have fin : EP X pins σ Q w s := ⟨z, H, I, rw', q⟩
  by_cases h0 : 0 ≤ i
  · have hj : i.toNat = j := by
      rw [seqIndex_of h0 h5] at h1
      exact Option.some.inj h1
    exact item_listR pl.isList h0 (by omega) (by rw [hj]; simpa using ew) fin hs
  · have hj : (i + (its.toArray.size : Int)).toNat = j := by
      rw [seqIndex_neg (by omega) h4] at h1
      rw [List.size_toArray, ← hl]
      exact Option.some.inj h1
    exact subscriptTail_builtinR (x := w) pl.isList.typeIs slot_list_getitem.lookup
      (wpAny_getItem_list_neg (Q := fun r s' => r = w ∧ EP X pins σ Q r s') pl.isList (by omega) (by rw [List.size_toArray] <;> omega) (by omega) (by rw [hj]; simpa using ew) ⟨rfl, fin⟩) hs
theorem ix_tup : IxR X (rIxT X.K) := by
  intro value slice pins s σ H x y v u Q I rx ry h hs
  obtain ⟨p, xs, i, z, rfl, rfl, hq, he, q⟩ := h
  cases rx
  obtain ⟨t, rfl⟩ := ry
  obtain ⟨its, r, pl, hz⟩ := I.tuple hq
  obtain ⟨j, h1, h2, h3, h4, h5⟩ := atI_get he
  obtain ⟨w, ew, rw'⟩ := r.get h2
  have hl := r.length
  have hn := line63
  have fin : EP X pins σ Q w s := ⟨z, H, I, rw', q⟩
  exact subscriptTail_builtinR (x := w) pl.typeIs slot_tuple_getitem.lookup
    (getItem_tuple (j := j) (Q := fun r s' => r = w ∧ EP X pins σ Q r s') pl (by omega) (by omega) (by rw [List.size_toArray, ← hl]; exact h1) (by simpa using ew) ⟨rfl, fin⟩) hs
theorem ix_str : IxR X rIxS := by
  intro value slice pins s σ H x y v u Q I rx ry h hs
  obtain ⟨z, i, c, rfl, rfl, hz, he, q⟩ := h
  obtain ⟨t, rfl⟩ := rx
  obtain ⟨t', rfl⟩ := ry
  obtain ⟨j, h1, h2, h3, h4, h5⟩ := atI_get he
  have hl : z.cps.toList.length = z.length := by simp [Str.length]
  rw [hl] at h1 h4 h5
  have hn := line63
  exact tail_any (typeIs_str s z t) slot_str_getitem.lookup (getItem_str (c := c) (by
    have e1 : decide (i < -(2 ^ 63 : Int)) = false := decide_eq_false (by omega)
    have e2 : decide (i ≥ 2 ^ 63) = false := decide_eq_false (by omega)
    rw [e1, e2, Bool.or_false]) (by rw [h1]; simpa using h2) ⟨.str ⟨#[c]⟩, H, I.tok _, ⟨_, rfl⟩, q⟩) hs
/-- list, tuple or str -/
def rIx (K : PySem.W.Frag) : R2 := fun x y H Q => rIxL K x y H Q ∨ rIxT K x y H Q ∨ rIxS x y H Q
theorem ix_seq : IxR X (rIx X.K) := ix_list.or (ix_tup.or ix_str)

/-! ### xs[i] = v, any sign -/
/-! ### slices -/
/-! ### in, not in: flat items -/
def flatV : V → Bool
  | .non => true
  | .bl _ => true
  | .int _ => true
  | .str _ => true
  | _ => false
/-- == of flat values -/
def eqV : V → V → Bool
  | .non, .non => true
  | .bl a, .bl b => a == b
  | .bl a, .int b => (if a then 1 else 0) == b
  | .int a, .bl b => a == (if b then 1 else 0)
  | .int a, .int b => a == b
  | .str a, .str b => a == b
  | _, _ => false
theorem eqAt_V {A : Around} {s : Shared} {y x : V} {u v : Value} (ry : RelV y u) (rx : RelV x v) (fy : flatV y = true) (fx : flatV x = true) : SeqAt.EqAt A s u v (eqV y x) := by
  cases y with
  | non =>
    cases ry
    cases x with
    | non => cases rx; exact SeqAt.EqAt.same _
    | bl b => cases rx; exact SeqAt.EqAt.none_bool b
    | int b => obtain ⟨t, rfl⟩ := rx; exact SeqAt.EqAt.none_int b t
    | str b => obtain ⟨t, rfl⟩ := rx; exact SeqAt.EqAt.none_str b t
    | _ => exact absurd (show false = true from fx) Bool.false_ne_true
  | bl a =>
    cases ry
    cases x with
    | non => cases rx; exact SeqAt.EqAt.bool_none a
    | bl b => cases rx; exact SeqAt.EqAt.bool_bool a b
    | int b => obtain ⟨t, rfl⟩ := rx; exact SeqAt.EqAt.bool_int a b t
    | str b => obtain ⟨t, rfl⟩ := rx; exact SeqAt.EqAt.bool_str a b t
    | _ => exact absurd (show false = true from fx) Bool.false_ne_true
  | int a =>
    obtain ⟨t', rfl⟩ := ry
    cases x with
    | non => cases rx; exact SeqAt.EqAt.int_none a t'
    | bl b => cases rx; exact SeqAt.EqAt.int_bool a t' b
    | int b => obtain ⟨t, rfl⟩ := rx; exact SeqAt.EqAt.int_int a t' b t
    | str b => obtain ⟨t, rfl⟩ := rx; exact SeqAt.EqAt.int_str a t' b t
    | _ => exact absurd (show false = true from fx) Bool.false_ne_true
  | str a =>
    obtain ⟨t', rfl⟩ := ry
    cases x with
    | non => cases rx; exact SeqAt.EqAt.str_none a t'
    | bl b => cases rx; exact SeqAt.EqAt.str_bool a t' b
    | int b => obtain ⟨t, rfl⟩ := rx; exact SeqAt.EqAt.str_int a t' b t
    | str b => obtain ⟨t, rfl⟩ := rx; exact SeqAt.EqAt.str_str a t' b t
    | _ => exact absurd (show false = true from fx) Bool.false_ne_true
  | _ => exact absurd (show false = true from fy) Bool.false_ne_true
/-- the items' answers, read off the values (a value's own answer does not lean on its token) -/
def eqU (x : V) (u : Value) : Bool := match u with
  | .none => eqV .non x
  | .bool b => eqV (.bl b) x
  | .int i _ => eqV (.int i) x
  | .str z _ => eqV (.str z) x
  | _ => false
theorem eqU_of {x y : V} {u : Value} (r : RelV y u) (f : flatV y = true) : eqU x u = eqV y x := by
  cases y with
  | non => cases r; rfl
  | bl b => cases r; rfl
  | int i => obtain ⟨t, rfl⟩ := r; rfl
  | str z => obtain ⟨t, rfl⟩ := r; rfl
  | _ => exact absurd (show false = true from f) Bool.false_ne_true
theorem any_eqU {x : V} : ∀ {xs : List V} {us : List Value}, Vals xs us → xs.all flatV = true → us.any (eqU x) = xs.any fun y => eqV y x
  | _, _, .nil, _ => rfl
  | y :: xs, u :: us, .cons r t, f => by
    rw [List.all_cons, Bool.and_eq_true] at f
    rw [List.any_cons, List.any_cons, eqU_of r f.1, any_eqU t f.2]
theorem mem_eqAt {A : Around} {s : Shared} {x : V} {v : Value} (rx : RelV x v) (fx : flatV x = true) : ∀ {xs : List V} {us : List Value}, Vals xs us → xs.all flatV = true → ∀ u ∈ us, SeqAt.EqAt A s u v (eqU x u)
  | _, _, .nil, _ => fun u hu => by cases hu
  | y :: xs, u :: us, .cons r t, f => fun u' hu => by
    rw [List.all_cons, Bool.and_eq_true] at f
    rcases List.mem_cons.mp hu with rfl | hu
    · rw [eqU_of r f.1]; exact eqAt_V r rx f.1 fx
    · exact mem_eqAt rx fx t f.2 u' hu
def inV (x : V) (xs : List V) : Bool := xs.any fun y => eqV y x
/-- x in a list or tuple of flat items -/
def rIn (K : PySem.W.Frag) (neg : Bool) : R2 := fun x y H Q => ∃ p xs, y = .ref p ∧ (SqL K H p xs ∨ SqT K H p xs) ∧ flatV x = true ∧ xs.all flatV = true ∧ Q (.bl (if neg then !inV x xs else inV x xs)) H
theorem op_in_seq : OpR X (compareOp .In) (rIn X.K false) := by
  intro pins s σ H x y v u Q I rx ry h
  obtain ⟨p, xs, rfl, hq, fx, fs, q⟩ := h
  cases ry
  rcases hq with hq | hq
  · obtain ⟨its, r, pl, hz⟩ := I.list hq
    refine SeqAt.in_listAt (eqU x) pl.isList (fun w hw => mem_eqAt rx fx r fs w (by simpa using hw)) ⟨.bl _, H, I, rfl, ?_⟩
    rw [show its.toArray.any (eqU x) = its.any (eqU x) by simp, any_eqU r fs]
    exact q
  · obtain ⟨its, r, pl, hz⟩ := I.tuple hq
    refine SeqAt.in_tupleAt (eqU x) pl (fun w hw => mem_eqAt rx fx r fs w (by simpa using hw)) ⟨.bl _, H, I, rfl, ?_⟩
    rw [show its.toArray.any (eqU x) = its.any (eqU x) by simp, any_eqU r fs]
    exact q
theorem op_notIn_seq : OpR X (compareOp .NotIn) (rIn X.K true) := by
  intro pins s σ H x y v u Q I rx ry h
  obtain ⟨p, xs, rfl, hq, fx, fs, q⟩ := h
  cases ry
  rcases hq with hq | hq
  · obtain ⟨its, r, pl, hz⟩ := I.list hq
    refine SeqAt.notIn_listAt (eqU x) pl.isList (fun w hw => mem_eqAt rx fx r fs w (by simpa using hw)) ⟨.bl _, H, I, rfl, ?_⟩
    rw [show its.toArray.any (eqU x) = its.any (eqU x) by simp, any_eqU r fs]
    exact q
  · obtain ⟨its, r, pl, hz⟩ := I.tuple hq
    refine SeqAt.notIn_tupleAt (eqU x) pl (fun w hw => mem_eqAt rx fx r fs w (by simpa using hw)) ⟨.bl _, H, I, rfl, ?_⟩
    rw [show its.toArray.any (eqU x) = its.any (eqU x) by simp, any_eqU r fs]
    exact q
/-! ### len, list(x), tuple(x) of any list or tuple that is read -/
theorem call_len_seq : CallR X (.builtin "len") (fun xs H Q => ∃ p ys, xs = [.ref p] ∧ (SqL X.K H p ys ∨ SqT X.K H p ys) ∧ Q (.int ys.length) H) := by
  intro pins s σ H xs us Q I r h
  obtain ⟨p, ys, rfl, hq, q⟩ := h
  obtain ⟨u, rfl, rx⟩ := vals1 r
  cases rx
  have hn := line63
  rcases hq with hq | hq
  · obtain ⟨its, r', pl, hz⟩ := I.list hq
    have hlen := r'.length
    exact Calls.call_len_list pl.isList (by simp only [List.size_toArray] <;> omega) ⟨.int ys.length, H, I.tok _, ⟨s.toks + 1, by rw [List.size_toArray, hlen]⟩, q⟩
  · obtain ⟨its, r', pl, hz⟩ := I.tuple hq
    have hlen := r'.length
    exact len_tuple pl (by simp only [List.size_toArray] <;> omega) ⟨.int ys.length, H, I.tok _, ⟨s.toks + 1, by rw [List.size_toArray, hlen]⟩, q⟩
theorem call_tuple_of : CallR X (.type "tuple") (fun xs H Q => ∃ p ys, xs = [.ref p] ∧ ((SqL X.K H p ys ∧ ∀ l, H l = none → Q (.ref l) (upd H l (.tup ys))) ∨ (SqT X.K H p ys ∧ Q (.ref p) H))) := by
  intro pins s σ H xs us Q I r h
  obtain ⟨p, ys, rfl, h⟩ := h
  obtain ⟨u, rfl, rx⟩ := vals1 r
  cases rx
  rcases h with ⟨hq, q⟩ | ⟨hq, q⟩
  · obtain ⟨its, r', pl, hz⟩ := I.list hq
    have hlen := r'.length
    refine call_tuple_list pl.isList (fun h' kp => ?_) (by simp only [List.size_toArray] <;> omega)
    have I1 : Inv X pins σ H { s with heap := h' } := I.kept (t' := s.toks) kp
    have I2 : Inv X pins σ (upd H h'.objs.size (.tup ys)) { s with heap := h'.push { cls := .type "tuple", data := .seq its.toArray } } :=
      I1.laid (t' := s.toks) (fun b o e => Heap.get?_push_of_some _ e) (Nat.le_refl _) (show ObjOk X.prog X.w _ _ _ (.tup ys) from ⟨hz, its, r', IsTup.new _ _⟩)
    exact ⟨.ref h'.objs.size, _, I2, rfl, q _ (I1.hok.fresh (Nat.le_refl _))⟩
  · obtain ⟨its, r', pl, hz⟩ := I.tuple hq
    exact call_tuple_same pl ⟨.ref p, H, I, rfl, q⟩

/-! ### the call of a builtin's method: o.m(..) -/
/-- the value is of that builtin type -/
def tyV (K : PySem.W.Frag) (T : String) (x : V) (H : Hp) : Prop := match x with
  | .str _ => T = "str"
  | .int _ => T = "int"
  | .ref p => (T = "list" ∧ ∃ xs, SqL K H p xs) ∨ (T = "tuple" ∧ ∃ o, K.lookup p = some o ∧ o.cls = .type "tuple" ∧ o.dict = none) ∨
      (T = "dict" ∧ ((∃ kvs, H p = some (.dK kvs)) ∨ ∃ kvs, H p = some (.dT kvs))) ∨ (T = "set" ∧ ∃ S n, H p = some (.set S n))
  | _ => False
theorem tyV_is {pins : List (Addr × Obj)} {σ : St} {H : Hp} {s : Shared} {T : String} {x : V} {v : Value} (I : Inv X pins σ H s) (r : RelV x v) (ty : tyV X.K T x H) :
    s.TypeIs v T ∧ ∀ a, v = .ref a → ∃ ob, s.heap.get? a = some ob ∧ ob.dict = none := by
  cases x with
  | str z =>
    obtain ⟨t, rfl⟩ := r
    cases (show T = "str" from ty)
    exact ⟨typeIs_str s z t, fun _ e => nomatch e⟩
  | int i =>
    obtain ⟨t, rfl⟩ := r
    cases (show T = "int" from ty)
    exact ⟨typeIs_int s i t, fun _ e => nomatch e⟩
  | ref p =>
    cases r
    rcases ty with ⟨rfl, xs, hq⟩ | ⟨rfl, o, hk, hc, hd⟩ | ⟨rfl, hk⟩ | ⟨rfl, S, n, hk⟩
    · obtain ⟨its, _, pl, _⟩ := I.list hq
      refine ⟨pl.isList.typeIs, fun a e => ?_⟩
      cases e
      obtain ⟨o, n, e, c, hd, _⟩ := pl
      exact ⟨o, e, hd⟩
    · refine ⟨⟨o, I.kIn p o hk, hc⟩, fun a e => ?_⟩
      cases e
      exact ⟨o, I.kIn _ o hk, hd⟩
    · have z : ∃ o, s.heap.get? p = some o ∧ o.ExactDict := by
        rcases hk with ⟨kvs, hk⟩ | ⟨kvs, hk⟩
        · obtain ⟨_, _, _, _, o, _, _, e, ex, _⟩ := I.hok p _ hk
          exact ⟨o, e, ex⟩
        · obtain ⟨_, _, _, _, o, _, _, e, ex, _⟩ := I.hok p _ hk
          exact ⟨o, e, ex⟩
      obtain ⟨o, e, ex⟩ := z
      refine ⟨⟨o, e, ex.1⟩, fun a e2 => ?_⟩
      cases e2
      exact ⟨o, e, ex.2.1⟩
    · obtain ⟨o, _, _, _, e, ex, _⟩ := I.hok p _ hk
      refine ⟨⟨o, e, ex.1⟩, fun a e2 => ?_⟩
      cases e2
      exact ⟨o, e, ex.2.1⟩
  | _ => exact False.elim ty
def tBM0 (K : PySem.W.Frag) (T : String) (r : V → List V → Hp → VK → Prop) (to : TE) : TE := fun σ H Q => to σ H fun x H1 => tyV K T x H1 ∧ r x [] H1 Q
def tBM (K : PySem.W.Frag) (T : String) (r : V → List V → Hp → VK → Prop) (to : TE) (t : TA) : TE := fun σ H Q => to σ H fun x H1 => tyV K T x H1 ∧ t σ H1 fun xs H2 => r x xs H2 Q
variable {o e : Expr} {es : List Expr} {to : TE} {t : TA} {name : Str} {apos cpos : Pos} {T id : String} {r : V → List V → Hp → VK → Prop}
theorem pe_bm0 (pa : PlainAttrs T) (slot : Slot T name id) (hty : typeOf (.builtin id) = pure (.type "method_descriptor")) (hm : MtR X id r) (ho : PE X o to)
    (hbase : attributeBase o name X.env (eval o X.env) = eval o X.env := by rfl) (hline : (apos.endLine == cpos.line) = true := by rfl) : PE X (.Call (.Attribute o name apos) [] [] cpos) (tBM0 X.K T r to) := by
  intro pins s σ H Q I h
  refine wpAny_Call_method0_late hbase hline (thn (ho pins s σ H _ I h) fun v s1 ⟨x, H1, I1, r1, ty, q1⟩ => ?_)
  obtain ⟨h1, h2⟩ := tyV_is I1 r1 ty
  exact ⟨T, id, pa, slot, hty, h1, h2, Calls.callWith_builtin rfl (PySem.evalArgs_none (hm pins s1 σ H1 x [] v [] Q I1 r1 .nil q1))⟩
theorem pe_bm (pa : PlainAttrs T) (slot : Slot T name id) (hty : typeOf (.builtin id) = pure (.type "method_descriptor")) (hm : MtR X id r) (ho : PE X o to) (ha : PA X (e :: es) t)
    (hbase : attributeBase o name X.env (eval o X.env) = eval o X.env := by rfl)
    (hfew : ((backTo cpos (starEach (e :: es) X.env)).all (fun x => !x.1) && (backToKw cpos (keywordEach [] X.env)).all (fun x => x.1.isSome)
      && decide ((e :: es).length + ([] : List Keyword).length + (if ([] : List Keyword).isEmpty then 0 else 1) < 30)) = true := by rfl)
    (hline : (apos.endLine == cpos.line) = true := by rfl) (hs : starEach (e :: es) X.env = (false, eval e X.env) :: starEach es X.env := by rfl) (hplain : (backTo cpos (starEach es X.env)).any (·.1) = false := by rfl) :
    PE X (.Call (.Attribute o name apos) (e :: es) [] cpos) (tBM X.K T r to t) := by
  intro pins s σ H Q I h
  refine wpAny_Call_method_late hbase hfew hline rfl (thn (ho pins s σ H _ I h) fun v s1 ⟨x, H1, I1, r1, ty, q1⟩ => ?_)
  obtain ⟨h1, h2⟩ := tyV_is I1 r1 ty
  refine ⟨T, id, pa, slot, hty, h1, h2, ?_⟩
  have hA := ha cpos pins s1 σ H1 _ I1 q1
  rw [hs] at hA ⊢
  refine Calls.callWith_builtin (by show (false || (backTo cpos (starEach es X.env)).any (·.1)) = false; rw [hplain] <;> rfl) (Calls.evalArgs_plain ?_)
  exact thn hA fun us s2 ⟨vs, H2, I2, r2, q2⟩ => hm pins s2 σ H2 x vs v us Q I2 r1 r2 q2
/- xs.append(e), list.index on a module's tuple .. are MtR facts of 06m -/
end
end L2

namespace L2
open PySem PySem.Spec PyProof.Rows

def MtM (X : Cx) (id : String) (r : V → List V → Hp → VK → Prop) : Prop :=
  ∀ (pins : List (Addr × Obj)) (s : Shared) (σ : St) (H : Hp) (x : V) (xs : List V) (v : Value) (us : List Value) (Q : VK), Inv X pins σ H s → RelV x v → Vals xs us → r x xs H Q →
    wpAny (model X.prog X.w) X.A (call (.builtin id) (v :: us)) (EP X pins σ Q) X.xe s

/-! ### lists of values -/
theorem Vals.one : ∀ {x : V} {us : List Value}, Vals [x] us → ∃ u, us = [u] ∧ RelV x u
  | _, _, .cons r .nil => ⟨_, rfl, r⟩
theorem Vals.two : ∀ {x y : V} {us : List Value}, Vals [x, y] us → ∃ u v, us = [u, v] ∧ RelV x u ∧ RelV y v
  | _, _, _, .cons r (.cons q .nil) => ⟨_, _, rfl, r, q⟩
theorem Vals.zero : ∀ {us : List Value}, Vals [] us → us = []
  | _, .nil => rfl
theorem Vals.dropLast {xs : List V} {us : List Value} (h : Vals xs us) : Vals xs.dropLast us.dropLast := by
  induction h with
  | nil => exact .nil
  | cons r t ih =>
    cases t with
    | nil => exact .nil
    | cons q t' => exact .cons r ih
theorem erase_last {α : Type} (l : List α) : l.eraseIdx (l.length - 1) = l.dropLast := by
  induction l with
  | nil => rfl
  | cons a r ih =>
    cases r with
    | nil => rfl
    | cons b r =>
      have e : (a :: b :: r).length - 1 = ((b :: r).length - 1) + 1 := by
        have h1 : (a :: b :: r).length = r.length + 2 := rfl
        have h2 : (b :: r).length = r.length + 1 := rfl
        omega
      rw [e, List.eraseIdx_cons_succ, ih]
      all_goals rfl
section
variable {X : Cx} {pins : List (Addr × Obj)} {σ : St} {H : Hp} {s : Shared} {l b : Addr} {xs ys zs : List V}

/-! ### the two steps: a tracked list is rewritten, a new list is laid -/
theorem Inv.lset {its its' : List Value} {n : Nat} {f : Array Value → Array Value} {t' : Nat} (I : Inv X pins σ H s) (hH : H l = some (.lst xs))
    (e : s.heap.get? l = some { cls := .type "list", data := .seq its.toArray n }) (hf : f its.toArray = its'.toArray) (hv : Vals ys its') (hz : ys.length ≤ sizeLine) :
    Inv X pins σ (upd H l (.lst ys)) { s with heap := s.heap.update l (Obj.mapSeq f), toks := t' } := by
  have q := PySem.IsL.update e f
  rw [hf] at q
  refine I.write (x := l) (e := l) (by rw [hH]; exact trivial) (.inl rfl) (fun b' u hb hu => (Heap.get?_update_other s.heap (Obj.mapSeq f) (Ne.symm hb)).trans hu) ⟨_, q⟩ ?_
  exact ⟨hz, its', _, hv, q⟩
theorem Inv.lnew {its : List Value} {t' : Nat} (I : Inv X pins σ H s) (hv : Vals ys its) (hz : ys.length ≤ sizeLine) :
    Inv X pins σ (upd H s.heap.objs.size (.lst ys)) { s with heap := s.heap.push { cls := .type "list", data := .seq its.toArray }, toks := t' } :=
  I.laid (fun _ _ q => Heap.get?_push_of_some _ q) (Nat.le_refl _) ⟨hz, its, 0, hv, Heap.get?_push_size _ rfl⟩
theorem Inv.fresh (I : Inv X pins σ H s) : H s.heap.objs.size = none := I.hok.fresh (Nat.le_refl _)
theorem Inv.lstM (I : Inv X pins σ H s) (hH : H l = some (.lst xs)) : xs.length ≤ sizeLine ∧ ∃ (its : List Value) (n : Nat), Vals xs its ∧ xs.length = its.length ∧ s.heap.get? l = some { cls := .type "list", data := .seq its.toArray n } := by
  obtain ⟨z, its, n, r, e⟩ := I.hok l _ hH
  exact ⟨z, its, n, r, r.length, e⟩

theorem notLongL {n : Nat} (h : n ≤ sizeLine) : Builtin.List.listTooLong n = false := by
  unfold Builtin.List.listTooLong
  exact decide_eq_false (by omega)
end

section
variable {X : Cx}

/-! ### methods -/
def rAppend : V → List V → Hp → VK → Prop := fun x vs H Q => ∃ l xs y, x = .ref l ∧ vs = [y] ∧ H l = some (.lst xs) ∧ xs.length < sizeLine ∧ Q .non (upd H l (.lst (xs ++ [y])))
theorem mt_append : MtM X "list.append" rAppend := by
  intro pins s σ H x vs v us Q I rx rv h
  obtain ⟨l, xs, y, rfl, rfl, hH, hz, q⟩ := h
  cases rx
  obtain ⟨u, rfl, ru⟩ := rv.one
  obtain ⟨z, its, n, r, hl, e⟩ := I.lstM hH
  refine call_meets F.slot_list_append ⟨_, e, rfl⟩ F.entry_list_append (F.args_list_append_2 _ _) (PySem.list_append l its.toArray n u (by rw [List.size_toArray]; omega)) ⟨e, ?_⟩
  refine ⟨.non, _, I.lset (its' := its ++ [u]) hH e (by simp) (r.append (.cons ru .nil)) ?_, rfl, q⟩
  rw [List.length_append, List.length_singleton]
  omega

def rExtend : V → List V → Hp → VK → Prop := fun x vs H Q => ∃ l b xs zs, x = .ref l ∧ vs = [.ref b] ∧ H l = some (.lst xs) ∧ H b = some (.lst zs) ∧ xs.length + zs.length ≤ sizeLine ∧ Q .non (upd H l (.lst (xs ++ zs)))
theorem mt_extend : MtM X "list.extend" rExtend := by
  intro pins s σ H x vs v us Q I rx rv h
  obtain ⟨l, b, xs, zs, rfl, rfl, hH, hB, hz, q⟩ := h
  cases rx
  obtain ⟨u, rfl, ru⟩ := rv.one
  cases ru
  obtain ⟨z, its, n, r, hl, e⟩ := I.lstM hH
  obtain ⟨z2, its2, n2, r2, hl2, e2⟩ := I.lstM hB
  have hsz : its.toArray.size + its2.toArray.size ≤ sizeLine := by rw [List.size_toArray, List.size_toArray]; omega
  have hlong : ¬ (!its.toArray.isEmpty && Builtin.List.listTooLong (its.toArray.size + its2.toArray.size)) = true := by
    rw [notLongL hsz, Bool.and_false]
    exact Bool.false_ne_true
  refine call_meets F.slot_list_extend ⟨_, e, rfl⟩ F.entry_list_extend (F.args_list_extend_2 _ _)
    (AutoSeq1.list_extend_list_list_0 l its.toArray n b its2.toArray n2 hlong (by rw [List.size_toArray]; omega) (by omega)) ⟨e, e2, ?_⟩
  refine ⟨.non, _, I.lset (its' := its ++ its2) hH e (by simp) (r.append r2) ?_, rfl, q⟩
  rw [List.length_append]
  omega

def rPop : V → List V → Hp → VK → Prop := fun x vs H Q => ∃ l xs y, x = .ref l ∧ vs = [] ∧ H l = some (.lst xs) ∧ xs[xs.length - 1]? = some y ∧ Q y (upd H l (.lst xs.dropLast))
theorem mt_pop : MtM X "list.pop" rPop := by
  intro pins s σ H x vs v us Q I rx rv h
  obtain ⟨l, xs, y, rfl, rfl, hH, hy, q⟩ := h
  cases rx
  have hus := rv.zero
  subst hus
  obtain ⟨z, its, n, r, hl, e⟩ := I.lstM hH
  obtain ⟨u, hu, ru⟩ := r.get hy
  have hy' : its.toArray[its.toArray.size - 1]? = some u := by
    show its.toArray[its.length - 1]? = some u
    rw [← Array.getElem?_toList, ← hl]
    exact hu
  refine call_meets F.slot_list_pop ⟨_, e, rfl⟩ F.entry_list_pop (F.args_list_pop_1 _) (MeetsSeq.list_pop_last l its.toArray n u hy' (by rw [List.size_toArray]; omega)) ⟨e, ?_⟩
  refine ⟨y, _, I.lset (its' := its.dropLast) hH e ?_ r.dropLast ?_, ru, q⟩
  · show its.toArray.eraseIdxIfInBounds (its.toArray.size - 1) = its.dropLast.toArray
    rw [List.size_toArray, List.eraseIdxIfInBounds_toArray, erase_last]
  · rw [List.length_dropLast]
    omega

/-! ### list + list, list += list, list * int -/
def rCat : R2 := fun x y H Q => ∃ l b xs zs, x = .ref l ∧ y = .ref b ∧ H l = some (.lst xs) ∧ H b = some (.lst zs) ∧ xs.length + zs.length ≤ sizeLine ∧ ∀ p, H p = none → Q (.ref p) (upd H p (.lst (xs ++ zs)))
theorem op_cat : OpR X (binaryOp .Add) rCat := by
  intro pins s σ H x y v u Q I rx ry h
  obtain ⟨l, b, xs, zs, rfl, rfl, hH, hB, hz, q⟩ := h
  cases rx
  cases ry
  obtain ⟨z, its, n, r, hl, e⟩ := I.lstM hH
  obtain ⟨z2, its2, n2, r2, hl2, e2⟩ := I.lstM hB
  refine PySem.P.add_list e e2 ?_ (by rw [List.size_toArray, List.size_toArray]; omega)
  have ea : its.toArray ++ its2.toArray = (its ++ its2).toArray := by simp
  rw [ea]
  exact ⟨.ref _, _, I.lnew (t' := s.toks) (r.append r2) (by rw [List.length_append]; omega), rfl, q _ I.fresh⟩
/-! ### del xs[i] -/
end

/-! ### xs[a:b] = ys -/
section
variable {prog : Program} {w : World} {A : Around} {E : Value → Shared → Prop} {s : Shared}
set_option maxRecDepth 100000 in
end

section
variable {X : Cx}
end
end L2

namespace L2
open PySem PySem.Spec PyProof.Rows

theorem Vals.bls : ∀ {bs : List Bool} {us : List Value}, Vals (bs.map V.bl) us → us = bs.map Value.bool
  | [], us, h => by
    rw [List.map_nil] at h
    cases h
    rfl
  | b :: bs, us, h => by
    rw [List.map_cons] at h
    cases h with
    | cons r t =>
      cases r
      rw [Vals.bls t, List.map_cons]
theorem Vals.ref1 {a : Addr} {us : List Value} (r : Vals [V.ref a] us) : us = [Value.ref a] := by
  cases r with
  | cons r t =>
    cases t
    cases r
    rfl
theorem Vals.int2 {i j : Int} {us : List Value} (r : Vals [V.int i, V.int j] us) : ∃ t u, us = [Value.int i t, Value.int j u] := by
  cases r with
  | cons r t =>
    cases t with
    | cons r2 t2 =>
      cases t2
      obtain ⟨t, rfl⟩ := r
      obtain ⟨u, rfl⟩ := r2
      exact ⟨t, u, rfl⟩

/-! ### the library's walks over a list of ints, kept objects alone -/
section
variable {prog : Program} {w : World} {A : Around} {E : Value → Shared → Prop} {s : Shared} {l : Addr} {its : List Value} {ns : List Int} {Q : Value → Shared → Prop}
end

/-! ### the calls, by values (CallR of 03t; MtR of 06l) -/
section
variable {X : Cx}
/-! sorted, sort (fewer than 64 items: the library's own bound) -/
end

/-! ### list.index, flat items -/
section
variable {X : Cx}
end

/-! ### type(x) of an own instance; is, is not of a module's class -/
section
variable {X : Cx}
end

/-! ### any(xs), all(xs) of a list of bools -/
theorem iter_any {prog : Program} {w : World} {A : Around} {E : Value → Shared → Prop} {s : Shared} {l : Addr} {items : Array Value} {Q : Value → Shared → Prop} (hl : s.heap.IsList l items)
    (h : ∀ s₂ : Shared, s₂ = { s with heap := s.heap.push { cls := .type "list_iterator", data := .fields #[.ref l, .int 0 0] } } →
      (s₂.heap.IsListIter s.heap.objs.size l 0 ∧ s₂.heap.IsList l items) → l ≠ s.heap.objs.size → Q (.ref s.heap.objs.size) s₂) : wpAny (model prog w) A (pyIter (.ref l)) Q E s := by
  have hlt : l < s.heap.objs.size := by obtain ⟨_, e, _⟩ := hl; exact Heap.lt_size e
  exact wpAny_pyIter_list hl (h _ rfl ⟨⟨_, Heap.get?_push_size _ rfl, rfl, rfl⟩, hl.push _⟩ (Nat.ne_of_lt hlt))
theorem truth_bools {prog : Program} {w : World} {A : Around} {bs : List Bool} {its : List Value} (e : its = bs.map Value.bool) :
    TruthOf prog w A (fun i v => its.toArray[i]? = some v) (fun i => bs.getD i false) := fun i v s Q E hv hq => by
  have hv' : its[i]? = some v := by simpa using hv
  rw [e, List.getElem?_map] at hv'
  obtain ⟨b, hb, rfl⟩ := Option.map_eq_some_iff.mp hv'
  have hg : bs.getD i false = b := by rw [List.getD_eq_getElem?_getD, hb] <;> rfl
  have hq' : Q (bs.getD i false) s := hq
  rw [hg] at hq'
  exact wpAny_truthy_bool hq'
theorem any_range : ∀ bs : List Bool, (List.range bs.length).any (fun i => bs.getD i false) = bs.any id
  | [] => rfl
  | b :: bs => by
    rw [List.length_cons, List.range_succ_eq_map, List.any_cons, List.any_map, List.any_cons, ← any_range bs]
    all_goals rfl
theorem all_range : ∀ bs : List Bool, (List.range bs.length).all (fun i => bs.getD i false) = bs.all id
  | [] => rfl
  | b :: bs => by
    rw [List.length_cons, List.range_succ_eq_map, List.all_cons, List.all_map, List.all_cons, ← all_range bs]
    all_goals rfl
section
variable {X : Cx}
def rAny (K : PySem.W.Frag) : List V → Hp → VK → Prop := fun vs H Q => ∃ (a : Addr) (bs : List Bool), vs = [V.ref a] ∧ SqL K H a (bs.map V.bl) ∧ Q (.bl (bs.any id)) H
def rAll (K : PySem.W.Frag) : List V → Hp → VK → Prop := fun vs H Q => ∃ (a : Addr) (bs : List Bool), vs = [V.ref a] ∧ SqL K H a (bs.map V.bl) ∧ Q (.bl (bs.all id)) H
theorem cr_any (hc : X.calm = true) : CallR X (.builtin "any") (rAny X.K) := by
  intro pins s σ H vs us Q I r h
  obtain ⟨a, bs, rfl, hs, q⟩ := h
  obtain ⟨its, rv, hl, _⟩ := I.list hs
  rw [Vals.ref1 r]
  have hb := rv.bls
  refine call_any_walk (iter_any hl.isList fun s₂ e2 st hne => ?_)
  subst e2
  refine ⟨_, _, _, _, _, _, _, rfl, Walks.list (A := X.A.in1) (I.ok.hd hc) _ a hne its.toArray, st, truth_bools hb, fun h' tk hk => ?_⟩
  refine ⟨.bl _, H, I.kept fun b o eo => hk b o (fun hmem => ?_) (Heap.get?_push_of_some _ eo), ?_, q⟩
  · rcases List.mem_cons.mp hmem with e1 | hmem
    · exact absurd (e1 ▸ Heap.lt_size eo) (Nat.lt_irrefl _)
    · cases hmem
  · show Value.bool _ = Value.bool _
    rw [← any_range, hb, List.size_toArray, List.length_map]
theorem cr_all (hc : X.calm = true) : CallR X (.builtin "all") (rAll X.K) := by
  intro pins s σ H vs us Q I r h
  obtain ⟨a, bs, rfl, hs, q⟩ := h
  obtain ⟨its, rv, hl, _⟩ := I.list hs
  rw [Vals.ref1 r]
  have hb := rv.bls
  refine call_all_walk (iter_any hl.isList fun s₂ e2 st hne => ?_)
  subst e2
  refine ⟨_, _, _, _, _, _, _, rfl, Walks.list (A := X.A.in1) (I.ok.hd hc) _ a hne its.toArray, st, truth_bools hb, fun h' tk hk => ?_⟩
  refine ⟨.bl _, H, I.kept fun b o eo => hk b o (fun hmem => ?_) (Heap.get?_push_of_some _ eo), ?_, q⟩
  · rcases List.mem_cons.mp hmem with e1 | hmem
    · exact absurd (e1 ▸ Heap.lt_size eo) (Nat.lt_irrefl _)
    · cases hmem
  · show Value.bool _ = Value.bool _
    rw [← all_range, hb, List.size_toArray, List.length_map]
end

/-! ### == and != of data at any depth: none, bools, ints, texts, lists, tuples -/
mutual
inductive Dp (K : PySem.W.Frag) (H : Hp) : V → PyData → Prop
  | non : Dp K H .non .none
  | bl (b : Bool) : Dp K H (.bl b) (.bool b)
  | int (i : Int) : Dp K H (.int i) (.int i)
  | str (x : Str) : Dp K H (.str x) (.str x)
  | lst {a : Addr} {xs : List V} {ds : List PyData} : SqL K H a xs → DpAll K H xs ds → Dp K H (.ref a) (.list ds)
  | tup {a : Addr} {xs : List V} {ds : List PyData} : SqT K H a xs → DpAll K H xs ds → Dp K H (.ref a) (.tuple ds)
inductive DpAll (K : PySem.W.Frag) (H : Hp) : List V → List PyData → Prop
  | nil : DpAll K H [] []
  | cons {v : V} {vs : List V} {d : PyData} {ds : List PyData} : Dp K H v d → DpAll K H vs ds → DpAll K H (v :: vs) (d :: ds)
end
section
variable {X : Cx} {pins : List (Addr × Obj)} {σ : St} {H : Hp} {s : Shared}
end
section
variable {X : Cx}
end
end L2

namespace L2
open PySem PySem.Spec PyProof.Rows
abbrev CellAt (h : Heap) (c : Addr) (v : Option Value) : Prop := h.IsCell c v
def relS (scope sc : Scope) : Scope :=
  { scope with names := scope.names.map fun (n, k) => if (k == .free && sc.kind == .function && sc.names.lookup n == some .cell) then (n, .cell) else (n, k) }

def cloFrom (cells : List (Str × Addr)) : List (Str × NameKind) → List (Str × Addr) → List (Str × Addr)
  | [], acc => acc
  | (n, k) :: r, acc => if k == .free then cloFrom cells r ((n, (cells.lookup n).getD 0) :: acc) else cloFrom cells r acc

theorem closure_loop (env : Env) (f : Str × NameKind → List (Str × Addr) → Sem (ForInStep (List (Str × Addr))))
    (hf : ∀ n k c, f (n, k) c = if k == .free then (do let a ← cellOf env n; pure (.yield ((n, a) :: c))) else pure (.yield c)) :
    ∀ (names : List (Str × NameKind)) (acc : List (Str × Addr)), (∀ y ∈ names, y.2 = .free → ∃ c, env.cells.lookup y.1 = some c) → forIn names acc f = pure (cloFrom env.cells names acc)
  | [], acc, _ => by rw [List.forIn_nil]; rfl
  | (n, k) :: r, acc, h => by
    rw [List.forIn_cons, hf]
    have ih := fun acc => closure_loop env f hf r acc fun y hy => h y (List.mem_cons_of_mem _ hy)
    unfold cloFrom
    by_cases hk : (k == NameKind.free) = true
    · rw [if_pos hk, if_pos hk]
      obtain ⟨c, hc⟩ := h (n, k) List.mem_cons_self (by simpa using hk)
      have e : cellOf env n = pure c := by unfold cellOf; rw [hc]
      rw [e]
      have e2 : (env.cells.lookup n).getD 0 = c := by rw [hc]; rfl
      rw [e2]
      exact ih _
    · rw [if_neg hk, if_neg hk]
      exact ih _
theorem closure_ok {scope : Scope} {env : Env} (h : ∀ y ∈ scope.names, y.2 = .free → ∃ c, env.cells.lookup y.1 = some c) : closureFor scope env = pure (cloFrom env.cells scope.names []) := by
  simp only [closureFor]
  rw [closure_loop env _ (fun n k c => rfl) scope.names [] h]
  rfl

theorem mem_lookup {α : Type} : ∀ {l : List (Str × α)} {n : Str} {c : α}, (n, c) ∈ l → ∃ c', l.lookup n = some c'
  | (k, v) :: r, n, c, h => by
    rw [List.lookup_cons]
    cases hb : n == k with
    | true => exact ⟨_, rfl⟩
    | false =>
      rcases List.mem_cons.mp h with e | h
      · cases e; simp at hb
      · exact mem_lookup h

theorem cloFrom_mem {cells : List (Str × Addr)} : ∀ {names : List (Str × NameKind)} {acc : List (Str × Addr)} {n : Str} {c : Addr}, (n, c) ∈ cloFrom cells names acc → (n, c) ∈ acc ∨ ((n, .free) ∈ names ∧ c = (cells.lookup n).getD 0)
  | [], _, _, _, h => .inl h
  | (m, k) :: r, acc, n, c, h => by
    unfold cloFrom at h
    split at h
    · rename_i hk
      have hk : k = .free := by simpa using hk
      rcases cloFrom_mem h with h | ⟨h1, h2⟩
      · rcases List.mem_cons.mp h with e | h
        · cases e; exact .inr ⟨hk ▸ List.mem_cons_self, rfl⟩
        · exact .inl h
      · exact .inr ⟨List.mem_cons_of_mem _ h1, h2⟩
    · rcases cloFrom_mem h with h | ⟨h1, h2⟩
      · exact .inl h
      · exact .inr ⟨List.mem_cons_of_mem _ h1, h2⟩
theorem cloFrom_acc {cells : List (Str × Addr)} : ∀ {names : List (Str × NameKind)} {acc : List (Str × Addr)} {p : Str × Addr}, p ∈ acc → p ∈ cloFrom cells names acc
  | [], _, _, h => h
  | (m, k) :: r, acc, p, h => by
    unfold cloFrom
    split
    · exact cloFrom_acc (List.mem_cons_of_mem _ h)
    · exact cloFrom_acc h
theorem cloFrom_has {cells : List (Str × Addr)} : ∀ {names : List (Str × NameKind)} {acc : List (Str × Addr)} {n : Str}, (n, .free) ∈ names → (n, (cells.lookup n).getD 0) ∈ cloFrom cells names acc
  | (m, k) :: r, acc, n, h => by
    unfold cloFrom
    rcases List.mem_cons.mp h with e | h
    · cases e
      exact cloFrom_acc List.mem_cons_self
    · split
      · exact cloFrom_has h
      · exact cloFrom_has h

theorem cells_mem : ∀ {names : List (Str × NameKind)} {h : Heap} {acc : List (Str × Addr)} {x : Str} {c : Addr}, (x, c) ∈ cellsFrom h.objs.size names acc →
    (x, c) ∈ acc ∨ ((x, .cell) ∈ names ∧ h.objs.size ≤ c ∧ CellAt (pushCells h names) c none)
  | [], _, _, _, _, h => .inl h
  | (n, k) :: r, h, acc, x, c, hm => by
    unfold cellsFrom at hm
    unfold pushCells
    split at hm
    · rename_i hk
      rw [if_pos hk]
      have hk : k = .cell := by simpa using hk
      rw [← Heap.size_push h { cls := .type "cell", data := .cell none }] at hm
      rcases cells_mem hm with hm | ⟨h1, h2, h3⟩
      · rcases List.mem_cons.mp hm with e | hm
        · cases e
          exact .inr ⟨hk ▸ List.mem_cons_self, Nat.le_refl _, _, pushCells_keeps r _ _ _ (Heap.get?_push_size _ rfl), rfl⟩
        · exact .inl hm
      · rw [Heap.size_push] at h2
        exact .inr ⟨List.mem_cons_of_mem _ h1, Nat.le_of_succ_le h2, h3⟩
    · rename_i hk
      rw [if_neg hk]
      rcases cells_mem hm with hm | ⟨h1, h2, h3⟩
      · exact .inl hm
      · exact .inr ⟨List.mem_cons_of_mem _ h1, h2, h3⟩
theorem cells_acc : ∀ {names : List (Str × NameKind)} {n : Nat} {acc : List (Str × Addr)} {p : Str × Addr}, p ∈ acc → p ∈ cellsFrom n names acc
  | [], _, _, _, h => h
  | (m, k) :: r, n, acc, p, h => by
    unfold cellsFrom
    split
    · exact cells_acc (List.mem_cons_of_mem _ h)
    · exact cells_acc h
theorem cells_has : ∀ {names : List (Str × NameKind)} {n : Nat} {acc : List (Str × Addr)} {x : Str}, (x, .cell) ∈ names → ∃ c, (x, c) ∈ cellsFrom n names acc
  | (m, k) :: r, n, acc, x, h => by
    unfold cellsFrom
    rcases List.mem_cons.mp h with e | h
    · cases e
      exact ⟨n, cells_acc List.mem_cons_self⟩
    · split
      · exact cells_has h
      · exact cells_has h
theorem cells_inj : ∀ {names : List (Str × NameKind)} {h : Heap} {acc : List (Str × Addr)} {x y : Str} {c : Addr}, (∀ p ∈ acc, p.2 < h.objs.size) → (∀ x y c, (x, c) ∈ acc → (y, c) ∈ acc → x = y) →
    (x, c) ∈ cellsFrom h.objs.size names acc → (y, c) ∈ cellsFrom h.objs.size names acc → x = y
  | [], _, _, _, _, _, _, hi, h1, h2 => hi _ _ _ h1 h2
  | (n, k) :: r, h, acc, x, y, c, hl, hi, h1, h2 => by
    unfold cellsFrom at h1 h2
    split at h1
    · rename_i hk
      rw [if_pos hk] at h2
      rw [← Heap.size_push h { cls := .type "cell", data := .cell none }] at h1 h2
      refine cells_inj (h := h.push _) (fun p hp => ?_) (fun x y c a b => ?_) h1 h2
      · rw [Heap.size_push]
        rcases List.mem_cons.mp hp with rfl | hp
        · exact Nat.lt_succ_self _
        · exact Nat.lt_succ_of_lt (hl p hp)
      · rcases List.mem_cons.mp a with e | a <;> rcases List.mem_cons.mp b with e' | b
        · cases e; cases e'; rfl
        · cases e; exact absurd (hl _ b) (Nat.lt_irrefl _)
        · cases e'; exact absurd (hl _ a) (Nat.lt_irrefl _)
        · exact hi _ _ _ a b
    · rename_i hk
      rw [if_neg hk] at h2
      exact cells_inj hl hi h1 h2

theorem newEnv_comp {M : Model} {A : Around} {E : Value → Shared → Prop} {s : Shared} {scope : Scope} {globals : Addr} {closure : List (Str × Addr)} {qual : Str} {func : Option Addr} {code : Value} {around : Env} {builtins : Addr} {Q : Env → Shared → Prop}
    (h : Q (newEnv scope s.heap.objs.size globals (cellsFrom (s.heap.objs.size + 1) scope.names closure) qual func code (some around) builtins)
      { s with heap := pushCells (s.heap.push { cls := .type "dict", data := .dict #[] }) scope.names }) :
    wpAny M A (newFunctionEnv scope globals closure [] qual func code (some around) builtins) Q E s := by
  simp only [newFunctionEnv, Option.isSome_some, if_true]
  refine wpAny_bind (wpAny_alloc ?_)
  refine wpAny_bind (wpAny_layCells _ (fun n k c => rfl) scope.names closure _ _ ?_)
  rw [show ({ s with heap := s.heap.push { cls := .type "dict", data := .dict #[] } } : Shared).heap.objs.size = s.heap.objs.size + 1 from Heap.size_push ..]
  rw [List.forIn_nil]
  exact wpAny_bind (wpAny_pure (wpAny_pure h))

/-- every name of the written scope, in the scope that runs -/
theorem lookup_relS {sc : Scope} : ∀ {names : List (Str × NameKind)} {x : Str} {k : NameKind},
    (names.map fun (n, k) => if (k == NameKind.free && sc.kind == .function && sc.names.lookup n == some .cell) then (n, NameKind.cell) else (n, k)).lookup x = some k →
    ∃ k', names.lookup x = some k' ∧ (k = k' ∨ (k' = .free ∧ k = .cell))
  | [], _, _, h => by simp at h
  | (n, k₀) :: r, x, k, h => by
    have ih := @lookup_relS sc r x k
    have h' : List.lookup x ((if (k₀ == NameKind.free && sc.kind == .function && sc.names.lookup n == some .cell) = true then (n, NameKind.cell) else (n, k₀)) :: (r.map _)) = some k := h
    cases hx : x == n with
    | true =>
      simp only [List.lookup_cons, hx]
      by_cases hc : (k₀ == NameKind.free && sc.kind == .function && sc.names.lookup n == some .cell) = true
      · rw [if_pos hc] at h'
        simp only [List.lookup_cons, hx] at h'
        cases h'
        simp only [Bool.and_eq_true, beq_iff_eq] at hc
        exact ⟨k₀, rfl, .inr ⟨hc.1.1, rfl⟩⟩
      · rw [if_neg hc] at h'
        simp only [List.lookup_cons, hx] at h'
        cases h'
        exact ⟨_, rfl, .inl rfl⟩
    | false =>
      simp only [List.lookup_cons, hx]
      by_cases hc : (k₀ == NameKind.free && sc.kind == .function && sc.names.lookup n == some .cell) = true
      · rw [if_pos hc] at h'
        simp only [List.lookup_cons, hx] at h'
        exact ih h'
      · rw [if_neg hc] at h'
        simp only [List.lookup_cons, hx] at h'
        exact ih h'
/-- the names of a comprehension's block: its own (with their places in N), or captured -/
structure BlkOk (N : List Str) (sc scope : Scope) (own : List (Str × Nat)) : Prop where
  kind : scope.kind = .function
  uniq : ∀ y ∈ scope.names, scope.names.lookup y.1 = some y.2
  ix : ∀ p ∈ own, N[p.2]? = some p.1
  free : ∀ y ∈ scope.names, y.2 = .free → sc.names.lookup y.1 = some .cell ∨ sc.names.lookup y.1 = some .free
  own : ∀ y ∈ scope.names, y.2 = .local ∨ y.2 = .cell → y.1 ∈ own.map (·.1) ∨ y.1 ∉ N
/-- the slots of the block's own names forgotten -/
def wipe (σ : St) : List Nat → St
  | [] => σ
  | v :: vs => (wipe σ vs).set v none
theorem wipe_length (σ : St) : ∀ vs : List Nat, (wipe σ vs).length = σ.length
  | [] => rfl
  | v :: vs => by unfold wipe; rw [List.length_set, wipe_length σ vs]
theorem wipe_some {σ : St} {i : Nat} {x : V} : ∀ {vs : List Nat}, (wipe σ vs)[i]? = some (some x) → σ[i]? = some (some x) ∧ i ∉ vs
  | [], h => ⟨h, by simp⟩
  | v :: vs, h => by
    unfold wipe at h
    by_cases hi : v = i
    · subst hi
      by_cases hv : v < (wipe σ vs).length
      · rw [List.getElem?_set_self hv] at h; cases h
      · rw [List.getElem?_eq_none (by simpa using hv)] at h; cases h
    · rw [List.getElem?_set_ne hi] at h
      obtain ⟨h1, h2⟩ := wipe_some h
      exact ⟨h1, by simp only [List.mem_cons, not_or]; exact ⟨fun e => hi e.symm, h2⟩⟩

/-- the context of a block that starts at s, its iterator's objects at fp -/
abbrev Cx.blk (X : Cx) (s : Shared) (H : Hp) (scope : Scope) (cenv : Env) (fp : List Addr) : Cx := { X with s_0 := s, H_0 := H, env := cenv, outer := X.stack, ex := fp, fn := fun x => scope.names.lookup x == some .cell, pn := [], xe := fun _ _ => False }
section
variable {X : Cx} {pins : List (Addr × Obj)} {σ : St} {H : Hp} {s : Shared}
theorem block_start {scope : Scope} {own : List (Str × Nat)} {fp : List Addr} (I : Inv X pins σ H s) (ok : BlkOk X.N X.env.scope scope own) (hN : X.N.Nodup) (hfp : ∀ b ∈ fp, FpOk X pins H b ∧ b < s.heap.objs.size) :
    Inv (X.blk s H scope (compEnvC scope (cellsFrom (s.heap.objs.size + 1) scope.names (cloFrom X.env.cells scope.names [])) s.heap.objs.size X.env) fp) [] (wipe σ (own.map (·.2))) H { s with heap := pushCells (s.heap.push { cls := .type "dict", data := .dict #[] }) scope.names } := by
  have hfree : ∀ y ∈ scope.names, y.2 = .free → ∃ c, X.env.cells.lookup y.1 = some c := fun y hy e => by
    rcases ok.free y hy e with k | k
    · exact I.ok.has _ (.inl k)
    · exact I.ok.has _ (.inr k)
  generalize hcenv : compEnvC scope (cellsFrom (s.heap.objs.size + 1) scope.names (cloFrom X.env.cells scope.names [])) s.heap.objs.size X.env = cenv
  have kp : ∀ b o, s.heap.get? b = some o → (pushCells (s.heap.push { cls := .type "dict", data := .dict #[] }) scope.names).get? b = some o := fun b o e => pushCells_keeps _ _ _ _ (Heap.get?_push_of_some _ e)
  have hL : cenv.locals = s.heap.objs.size := by rw [← hcenv]; rfl
  have hcl : cenv.cells = cellsFrom (s.heap.objs.size + 1) scope.names (cloFrom X.env.cells scope.names []) := by rw [← hcenv]; rfl
  have hsc : cenv.scope = relS scope X.env.scope := by rw [← hcenv]; rfl
  rw [← Heap.size_push s.heap { cls := .type "dict", data := .dict #[] }] at hcl
  have cm : ∀ {y c}, (y, c) ∈ cloFrom X.env.cells scope.names [] → X.env.cells.lookup y = some c ∧ c < s.heap.objs.size := fun {y c} hm => by
    rcases cloFrom_mem hm with hm | ⟨h1, rfl⟩
    · cases hm
    · obtain ⟨c, hc⟩ := hfree _ h1 rfl
      rw [hc]
      obtain ⟨w, z⟩ := I.cell _ _ hc
      exact ⟨rfl, z.lt⟩
  have mem : ∀ {y c}, cenv.cells.lookup y = some c → (X.env.cells.lookup y = some c ∧ c < s.heap.objs.size) ∨ (s.heap.objs.size + 1 ≤ c ∧ CellAt (pushCells (s.heap.push { cls := .type "dict", data := .dict #[] }) scope.names) c none) := fun {y c} e => by
    rw [hcl] at e
    rcases cells_mem (PySem.mem_of_lookup e) with hm | ⟨_, h2, h3⟩
    · exact .inl (cm hm)
    · rw [Heap.size_push] at h2; exact .inr ⟨h2, h3⟩
  have look : ∀ {y}, scope.names.lookup y = some .free → ∃ c, cenv.cells.lookup y = some c ∧ X.env.cells.lookup y = some c := fun {y} hl => by
    have hy : (y, NameKind.free) ∈ scope.names := PySem.mem_of_lookup hl
    obtain ⟨c', e'⟩ := mem_lookup (cells_acc (names := scope.names) (n := (s.heap.push { cls := .type "dict", data := .dict #[] }).objs.size) (cloFrom_has (cells := X.env.cells) (acc := []) hy))
    rw [← hcl] at e'
    refine ⟨c', e', ?_⟩
    rw [hcl] at e'
    rcases cells_mem (PySem.mem_of_lookup e') with hm | ⟨h1, _, _⟩
    · exact (cm hm).1
    · have := ok.uniq _ h1
      rw [hl] at this; cases this
  have okB : (X.blk s H scope cenv fp).Ok := by
    refine ⟨I.ok.mod, by show cenv.scope.kind = _; rw [hsc]; exact ok.kind, by show cenv.globals = _; rw [← hcenv]; exact I.ok.glob, by show cenv.builtins = _; rw [← hcenv]; exact I.ok.blt, by show s.heap.objs.size ≤ cenv.locals; rw [hL]; exact Nat.le_refl _,
      fun y z c e1 e2 => ?_, fun y hy => ?_, fun y c z e => ?_, I.ok.hd, I.ok.frames, .inl rfl, fun b hb => ⟨?_, fun y c e z => ?_⟩, I.bs, Nat.le_trans I.ok.bsz I.sz, fun b o e hb => ?_, fun b hb z => ?_, I.stack, I.stkFree⟩
    · have e1 : cenv.cells.lookup y = some c := e1
      have e2 : cenv.cells.lookup z = some c := e2
      rw [hcl] at e1 e2
      refine cells_inj (fun p hp => ?_) (fun y z c a b => I.ok.inj y z c (cm a).1 (cm b).1) (PySem.mem_of_lookup e1) (PySem.mem_of_lookup e2)
      rw [Heap.size_push]
      exact Nat.lt_succ_of_lt (cm (y := p.1) (c := p.2) hp).2
    · show ∃ c, cenv.cells.lookup y = some c
      have key : ∀ k, cenv.kindOf y = some k → (k = .cell ∨ k = .free) → ∃ c, cenv.cells.lookup y = some c := fun k hk hk' => by
        unfold Env.kindOf at hk
        rw [hsc] at hk
        obtain ⟨k', e, r⟩ := lookup_relS hk
        have : k' = .cell ∨ k' = .free := by
          rcases r with rfl | ⟨rfl, _⟩
          · exact hk'
          · exact .inr rfl
        rcases this with rfl | rfl
        · obtain ⟨c, hm⟩ := cells_has (n := (s.heap.push { cls := .type "dict", data := .dict #[] }).objs.size) (acc := cloFrom X.env.cells scope.names []) (PySem.mem_of_lookup e)
          obtain ⟨c', e'⟩ := mem_lookup hm
          exact ⟨c', by rw [hcl]; exact e'⟩
        · obtain ⟨c, h1, _⟩ := look e
          exact ⟨c, h1⟩
      rcases hy with hy | hy
      · exact key _ hy (.inl rfl)
      · exact key _ hy (.inr rfl)
    · have z : (scope.names.lookup y == some NameKind.cell) = true := z
      have z : scope.names.lookup y = some .cell := by simpa using z
      have e : cenv.cells.lookup y = some c := e
      rw [hcl] at e
      rcases cells_mem (PySem.mem_of_lookup e) with hm | ⟨_, h2, _⟩
      · rcases cloFrom_mem hm with hm | ⟨h1, _⟩
        · cases hm
        · have q := ok.uniq _ h1
          rw [z] at q; cases q
      · rw [Heap.size_push] at h2
        exact Nat.le_of_succ_le h2
    · show b ≠ cenv.locals
      rw [hL]; exact Nat.ne_of_lt (hfp b hb).2
    · have e : cenv.cells.lookup y = some c := e
      rcases mem e with ⟨h1, _⟩ | ⟨h1, _⟩
      · exact (hfp b hb).1.2.2.2.2.1 y c h1 z
      · have h2 : s.heap.objs.size + 1 ≤ b := by rw [← z]; exact h1
        exact absurd (Nat.lt_of_lt_of_le (hfp b hb).2 (Nat.le_of_succ_le h2)) (Nat.lt_irrefl _)
    · rcases (hfp b hb).1.2.2.2.1 with z | z
      · exact I.ok.noex b o e z
      · exact absurd (Nat.lt_of_lt_of_le (Heap.lt_size e) (Nat.le_trans I.ok.bsz z)) (Nat.lt_irrefl _)
    · rcases List.mem_cons.mp (I.stkSub b z) with z | z
      · exact (hfp b hb).1.2.1 z
      · exact (hfp b hb).1.2.2.1 z
  refine ⟨okB, rfl, I.bare, Un.kept kp, ⟨fun _ => none, ?_, fun i y av e1 e2 e3 => ?_⟩, fun y c e => ?_, ?_, fun y c e => ?_, fun p hp => ?_, I.hok.kept kp, by rw [wipe_length]; exact I.len⟩
  · show Heap.Ns _ cenv.locals _
    rw [hL]
    exact Heap.Ns.keeps (Heap.Ns.new ..) fun b o e => pushCells_keeps _ _ _ _ e
  · obtain ⟨e2, hne⟩ := wipe_some e2
    have hfr : scope.names.lookup y = some .free ∧ (cenv.kindOf y = some .cell ∨ cenv.kindOf y = some .free) := by
      have key : ∀ k, cenv.scope.names.lookup y = some k → k = .local ∨ k = .cell ∨ k = .free → scope.names.lookup y = some .free ∧ (cenv.kindOf y = some .cell ∨ cenv.kindOf y = some .free) := fun k hk hk' => by
        have hk0 := hk
        rw [hsc] at hk
        obtain ⟨k', e, r⟩ := lookup_relS hk
        have no : ¬ (k' = .local ∨ k' = .cell) := fun hh => by
          rcases ok.own _ (PySem.mem_of_lookup e) hh with e' | e'
          · obtain ⟨p, hp, hpy⟩ := List.mem_map.mp e'
            have e3 := ok.ix p hp
            have : p.1 = y := hpy
            rw [this] at e3
            exact hne (List.mem_map.mpr ⟨p, hp, nodup_ix hN e3 e1⟩)
          · exact e' (List.mem_of_getElem? e1)
        rcases r with rfl | ⟨rfl, rfl⟩
        · rcases hk' with rfl | rfl | rfl
          · exact absurd (.inl rfl) no
          · exact absurd (.inr rfl) no
          · exact ⟨e, .inr hk0⟩
        · exact ⟨e, .inl hk0⟩
      have e3 : Vis cenv.scope y := e3
      rcases e3 with e3 | e3 | e3
      · exact key _ e3 (.inl rfl)
      · exact key _ e3 (.inr (.inl rfl))
      · exact key _ e3 (.inr (.inr rfl))
    obtain ⟨m, hn, hl⟩ := I.loc
    have hvis : Vis X.env.scope y := (ok.free _ (PySem.mem_of_lookup hfr.1) rfl).elim (fun k => .inr (.inl k)) (fun k => .inr (.inr k))
    obtain ⟨w, r, q⟩ := hl i y av e1 e2 hvis
    refine ⟨w, r, .inr ⟨hfr.2, ?_⟩⟩
    obtain ⟨c, h1, h2⟩ := look hfr.1
    rcases q with ⟨k, _⟩ | ⟨_, c', e', z⟩
    · have k : X.env.scope.names.lookup y = some .local := k
      rcases ok.free _ (PySem.mem_of_lookup hfr.1) rfl with k' | k' <;> rw [show X.env.scope.names.lookup y = _ from k'] at k <;> cases k
    · rw [h2] at e'; cases e'
      exact ⟨c, h1, z.keeps kp⟩
  · have e : cenv.cells.lookup y = some c := e
    rcases mem e with ⟨h1, _⟩ | ⟨_, z⟩
    · obtain ⟨w, z⟩ := I.cell y c h1
      exact ⟨w, z.keeps kp⟩
    · exact ⟨_, z⟩
  · show H cenv.locals = none
    rw [hL]; exact I.hok.fresh (Nat.le_refl _)
  · have e : cenv.cells.lookup y = some c := e
    rcases mem e with ⟨h1, _⟩ | ⟨h1, _⟩
    · exact I.freeC y c h1
    · exact I.hok.fresh (Nat.le_of_succ_le h1)
  · exact absurd (show p ∈ ([] : List (Addr × Obj)) ++ [] from hp) (by simp)

/-- an item appended to a tracked list -/
theorem app_ok {E : Value → Shared → Prop} {D : Addr} {xs : List V} {y : V} {v : Value} {Q : Value → Shared → Prop} (I : Inv X pins σ H s) (hD : H D = some (.lst xs)) (hz : xs.length < sizeLine) (r : RelV y v)
    (h : ∀ s', Inv X pins σ (upd H D (.lst (xs ++ [y]))) s' → Q .none s') : wpAny (model X.prog X.w) X.A (call (.builtin "list.append") [.ref D, v]) Q E s := by
  obtain ⟨hz', its, n, ri, e⟩ := I.hok D _ hD
  have hl := ri.length
  refine append_at (hsz := by rw [List.size_toArray]; omega) e fun h' sb ho' => ?_
  refine h { s with heap := h' } (I.write (t' := s.toks) (by rw [hD]; trivial) (.inl rfl) (fun b u hb q => (sb.2 b hb).trans q) ⟨_, ho'⟩ ⟨by rw [List.length_append]; exact hz, its ++ [v], n + 1, ri.append (.cons r .nil), ?_⟩)
  rw [ho']
  simp

/-- a clause's tests -/
def PTs (X : Cx) (ifs : List Expr) (t : TT) : Prop :=
  ∀ (pins : List (Addr × Obj)) (s : Shared) (σ : St) (H : Hp) (Q : Bool → Hp → Prop), Inv X pins σ H s → t σ H Q →
    wpAny (model X.prog X.w) X.A (forIn ifs true fun c r => if r = true then do let ok ← isTrue c X.env (eval c X.env); pure (ForInStep.yield ok) else pure (ForInStep.yield r)) (TP X pins σ Q) X.xe s
def tYes : TT := fun _ H Q => Q true H
theorem pts_nil : PTs X [] tYes := fun _ _ _ H _ I h => wpAny_tests_nil ⟨H, I, h⟩
theorem pts_one {c : Expr} {t : TT} (h : PT X c t) : PTs X [c] t := fun pins s σ H Q I hw => wpAny_tests_one (h pins s σ H Q I hw)
end

theorem thnF {α : Type} {t : Sem α} {Q Q' : α → Shared → Prop} {M : Model} {A : Around} {E : Value → Shared → Prop} {s : Shared} (h : wpAny M A t Q (fun _ _ => False) s) (hQ : ∀ a s, Q a s → Q' a s) : wpAny M A t Q' E s := wpAny_mono h hQ fun _ _ z => False.elim z

/-- the loop of a list comprehension's block, the target of any form (codeAny_compLoop_tests asks a target that no tuple goes to; statement and proof follow it, PyProof/CompMap.lean:41-61, with the step letOwnedTupleGo kept) -/
theorem compLoop_any {prog : Program} {w : World} {A : Around} {R : Result → Shared → Prop} {s : Shared} {elt target iter : Expr} {ifs : List Expr} {scope : Scope} {pos : Pos} {it acc : Value} {env : Env} (I : Nat → Shared → Prop)
    (turn : ∀ n s, I n s → wpAny (model prog w) A (pyNext it) (fun r s₁ => match r with
      | none => R (.ok .next) s₁
      | some v => wpAny (model prog w) A (letOwnedTupleGo target it v) (fun _ s₁' => wpAny (model prog w) A (assign target env v) (fun _ s₂ =>
          wpAny (model prog w) A (forIn ifs true fun c r => if r = true then do let ok ← isTrue c env (eval c env); pure (ForInStep.yield ok) else pure (ForInStep.yield r)) (fun ok s₃ =>
            if ok = true then wpAny (model prog w) A (eval elt env) (fun x s₄ =>
              wpAny (model prog w) A (call (.builtin "list.append") [acc, x]) (fun _ s₅ => ∃ m, m < n ∧ I m s₅) (notedBy (model prog w) A env fun e s' => R (.error e) s') s₄) (notedBy (model prog w) A env fun e s' => R (.error e) s') s₃
            else ∃ m, m < n ∧ I m s₃) (notedBy (model prog w) A env fun e s' => R (.error e) s') s₂) (notedBy (model prog w) A env fun e s' => R (.error e) s') s₁') (notedBy (model prog w) A env fun e s' => R (.error e) s') s₁) (notedBy (model prog w) A env fun e s' => R (.error e) s') s)
    (n : Nat) (h : I n s) :
    codeAny (model prog w) A (.compLoop (.ListComp elt [⟨target, iter, ifs, 0⟩] scope pos) 0 it acc env) R s := by
  refine codeAny_loop rfl I (fun n s hI => ?_) n h
  show wpAny _ A ((compTurn (.ListComp elt [⟨target, iter, ifs, 0⟩] scope pos) 0 it acc env).onRaise (fun x => do noteFrame x env; theTreesLotGoes x)) _ _ s
  refine wpAny_noted ?_
  rw [compTurn_list]
  refine wpAny_bind (wpAny_standAt (wpAny_bind (wpAny_mono (turn n s hI) (fun r s₁ h₁ => ?_) fun _ _ h' => h')))
  cases r with
  | none => exact wpAny_pure h₁
  | some v =>
    refine wpAny_bind (wpAny_mono h₁ (fun _ s₁' h₁' => ?_) fun _ _ h' => h')
    refine wpAny_bind (wpAny_mono h₁' (fun _ s₂ h₂ => wpAny_bind (wpAny_mono h₂ (fun ok s₃ h₃ => ?_) fun _ _ h' => h')) fun _ _ h' => h')
    cases ok with
    | false => exact wpAny_pure ⟨rfl, h₃⟩
    | true =>
      exact wpAny_bind (wpAny_bind (wpAny_mono h₃ (fun x s₄ h₄ => wpAny_bind (wpAny_mono h₄ (fun _ s₅ h₅ => wpAny_pure (wpAny_pure ⟨rfl, h₅⟩)) fun _ _ h' => h')) fun _ _ h' => h'))

section
variable {X : Cx}
/-- [elt for target in iter if ..]: D the new list; W by the turn and a measure, Nx what a turn is to reach -/
def tLc (wi : TI) (g : TG) (tt : TT) (te : TE) (vs : List Nat) : TE := fun σ H Q => wi σ H fun J H1 => ∀ D, H1 D = none → ∃ W : Nat → Nat → Hp → Prop, (∃ m, W 0 m (upd H1 D (.lst []))) ∧ ∀ i m H, W i m H →
  (J.stop i H ∧ Q (.ref D) H) ∨ (J.go i H ∧ ∃ Nx : Hp → Prop, (∀ H', Nx H' → ∃ m', m' < m ∧ W (i + 1) m' H') ∧ ∀ x H', J.yld i H x H' → g x (wipe σ vs) H' fun σ2 H2 => wipe σ2 vs = wipe σ vs ∧ tt σ2 H2 fun b H3 =>
    if b = true then te σ2 H3 fun y H4 => ∃ acc, H4 D = some (.lst acc) ∧ acc.length < sizeLine ∧ Nx (upd H4 D (.lst (acc ++ [y]))) else Nx H3)
theorem lc_core {pins : List (Addr × Obj)} {s : Shared} {σ : St} {H : Hp} {Q : VK} {elt tg iter : Expr} {ifs : List Expr} {scope : Scope} {own : List (Str × Nat)} {pos pos' : Pos} {wi : TI} {g : TG} {tt : TT} {te : TE} {use : Option (Value → Sem Unit)} {Qf : Value → Shared → Prop}
    (hc : X.calm = true) (hN : X.N.Nodup) (I : Inv X pins σ H s) (hi : PI X tg iter wi) (ok : BlkOk X.N X.env.scope scope own)
    (hg : ∀ (s : Shared) (H : Hp) (C : Addr) (cl : List (Str × Addr)) (fp : List Addr), PG (X.blk s H scope (compEnvC scope cl C X.env) fp) tg g) (ht : ∀ (s : Shared) (H : Hp) (C : Addr) (cl : List (Str × Addr)) (fp : List Addr), PTs (X.blk s H scope (compEnvC scope cl C X.env) fp) ifs tt)
    (he : ∀ (s : Shared) (H : Hp) (C : Addr) (cl : List (Str × Addr)) (fp : List Addr), PE (X.blk s H scope (compEnvC scope cl C X.env) fp) elt te) (hs : ∀ x, foldedSetIterable iter X.env x = pure x)
    (h : tLc wi g tt te (own.map (·.2)) σ H Q)
    (hRR : ∀ D C s' m H', Inv X pins σ H' s' → Q (.ref D) H' → s'.heap.Ns C m → FpOk X pins H' C → compPost (model X.prog X.w) X.A X.xe use Qf (.ref D) C (.ok .next) s') :
    wpAny (model X.prog X.w) X.A (comprehension (.ListComp elt [⟨tg, iter, ifs, 0⟩] scope pos) scope X.env pos' (newList []) false (eval iter X.env) use) Qf X.xe s := by
  have hfree : ∀ y ∈ scope.names, y.2 = .free → ∃ c, X.env.cells.lookup y.1 = some c := fun y hy e => by
    rcases ok.free y hy e with k | k
    · exact I.ok.has _ (.inl k)
    · exact I.ok.has _ (.inr k)
  refine wpAny_comprehension_free (use := use) rfl hs (closure_ok hfree) ok.kind (fun y hy e => by rw [ok.uniq y hy, e])
    (thn (hi pins s σ H _ I h) fun xv s1 hx => thn hx fun itv s2 h2 => ?_)
  obtain ⟨it, fp, tn, J, H2, e, I2, T, st2, f2, q⟩ := h2
  subst e
  refine wpAny_newObj_type (newEnv_comp ?_) (by show 0 ≤ sizeLine; decide)
  generalize hD : s2.heap.objs.size = D
  have hDn : H2 D = none := I2.hok.fresh (Nat.le_of_eq hD)
  obtain ⟨W, ⟨m0, w0⟩, turn⟩ := q D hDn
  -- the new list
  generalize hs3 : ({ s2 with heap := s2.heap.push { cls := .type "list", data := .seq ([] : List Value).toArray } } : Shared) = s3
  have I3 : Inv X pins σ (upd H2 D (.lst [])) s3 := by
    rw [← hs3]
    refine I2.laid (t' := s2.toks) (fun b o e => Heap.get?_push_of_some _ e) (Nat.le_of_eq hD) ⟨Nat.zero_le _, [], 0, .nil, ?_⟩
    rw [← hD]
    exact Heap.get?_push_size _ rfl
  have h3 : s3.heap = s2.heap.push { cls := .type "list", data := .seq ([] : List Value).toArray } := by rw [← hs3]
  have sz : ∀ b ∈ fp, b < s2.heap.objs.size := fun b hb => by
    obtain ⟨o, e, _⟩ := T.obj _ _ st2 b hb
    exact Heap.lt_size e
  have f3 : ∀ b ∈ fp, FpOk X pins (upd H2 D (.lst [])) b ∧ b < s3.heap.objs.size := fun b hb => by
    have hlt := sz b hb
    refine ⟨⟨?_, (f2 b hb).2⟩, by rw [h3, Heap.size_push]; exact Nat.lt_succ_of_lt hlt⟩
    rw [upd_ne (by rw [← hD]; exact Nat.ne_of_lt hlt)]
    exact (f2 b hb).1
  have st3 : tn 0 s3.heap := T.keep _ _ _ st2 fun b _ o e => by rw [h3]; exact Heap.get?_push_of_some _ e
  have I4 := block_start I3 ok hN f3
  have pg := hg s3 (upd H2 D (.lst [])) s3.heap.objs.size (cellsFrom (s3.heap.objs.size + 1) scope.names (cloFrom X.env.cells scope.names [])) fp
  have pt := ht s3 (upd H2 D (.lst [])) s3.heap.objs.size (cellsFrom (s3.heap.objs.size + 1) scope.names (cloFrom X.env.cells scope.names [])) fp
  have pe := he s3 (upd H2 D (.lst [])) s3.heap.objs.size (cellsFrom (s3.heap.objs.size + 1) scope.names (cloFrom X.env.cells scope.names [])) fp
  show codeAny _ _ (.compStart (.ListComp elt [⟨tg, iter, ifs, 0⟩] scope pos) 0 (.ref it) (.ref D) (compEnvC scope (cellsFrom (s3.heap.objs.size + 1) scope.names (cloFrom X.env.cells scope.names [])) s3.heap.objs.size X.env)) (compPost (model X.prog X.w) X.A X.xe use Qf (.ref D) s3.heap.objs.size) { s3 with heap := pushCells (s3.heap.push { cls := .type "dict", data := .dict #[] }) scope.names }
  have nfp : ∀ b ∈ fp, (upd H2 D (.lst [])) b = none := fun b hb => (f3 b hb).1.1
  generalize hce : compEnvC scope (cellsFrom (s3.heap.objs.size + 1) scope.names (cloFrom X.env.cells scope.names [])) s3.heap.objs.size X.env = ce at I4 pg pt pe ⊢
  have cL : ce.locals = s3.heap.objs.size := by subst hce; rfl
  generalize hH3 : upd H2 D (.lst []) = H3 at I3 I4 pg pt pe w0 nfp f3
  generalize hs4 : ({ s3 with heap := pushCells (s3.heap.push { cls := .type "dict", data := .dict #[] }) scope.names } : Shared) = s4 at I4 ⊢
  have st4 : tn 0 s4.heap := T.keep _ _ _ st3 fun b _ o e => by rw [← hs4]; exact pushCells_keeps _ _ _ _ (Heap.get?_push_of_some _ e)
  have stat : ∀ {σ' : St} {H' : Hp} {s' : Shared}, Inv (X.blk s3 H3 scope ce fp) [] σ' H' s' → (∀ b ∈ fp, H' b = none) → ∀ b ∈ fp, FpOk (X.blk s3 H3 scope ce fp) [] H' b := fun {σ' H' s'} I' hn b hb =>
    ⟨hn b hb, (I'.ok.exf b hb).1, I'.ok.exfs b hb, .inl hb, fun x c e => (I'.ok.exf b hb).2 x c e, fun p hp => absurd (show p ∈ ([] : List (Addr × Obj)) ++ [] from hp) (by simp)⟩
  have loop : codeAny (model X.prog X.w) X.A (.compLoop (.ListComp elt [⟨tg, iter, ifs, 0⟩] scope pos) 0 (.ref it) (.ref D) ce) (compPost (model X.prog X.w) X.A X.xe use Qf (.ref D) s3.heap.objs.size) s4 := by
    refine compLoop_any (fun n s' => ∃ i H', Inv (X.blk s3 H3 scope ce fp) [] (wipe σ (own.map (·.2))) H' s' ∧ tn i s'.heap ∧ (∀ b ∈ fp, H' b = none) ∧ W i n H') ?_ m0 ⟨0, H3, I4, st4, nfp, w0⟩
    rintro n s5 ⟨i, H5, I5, st5, n5, w5⟩
    rcases turn i n H5 w5 with ⟨stop, qq⟩ | ⟨go, Nx, hNx, step⟩
    · have td := T.done (X.blk s3 H3 scope ce fp) rfl rfl rfl hc i [] s5 _ H5 (fun _ _ => False) I5 (stat I5 n5) st5 stop
      refine thnF td fun r s6 ⟨hr, I6⟩ => ?_
      subst hr
      -- back in the def's context
      have I7 : Inv X pins σ H5 s6 := I3.call' (ch := fp) I6.os I6.base I6.hok I6.bare fun b hb => ⟨(f3 b hb).1.2.2.2.1, (f3 b hb).1.2.1, (f3 b hb).1.2.2.2.2.1, (f3 b hb).1.2.2.2.2.2⟩
      have nC : H5 s3.heap.objs.size = none := by
        have z : H5 ce.locals = none := I6.free
        rw [cL] at z
        exact z
      obtain ⟨m, hn, _⟩ := I6.loc
      have hn : s6.heap.Ns ce.locals m := hn
      rw [cL] at hn
      exact hRR D s3.heap.objs.size s6 m H5 I7 qq hn (I3.fpOk (Nat.le_refl _) nC)
    · have ti := T.item (X.blk s3 H3 scope ce fp) rfl rfl rfl hc i [] s5 _ H5 (fun _ _ => False) I5 (stat I5 n5) st5 go
      refine thnF ti fun r s6 ⟨u, hr, h6⟩ => ?_
      subst hr
      refine thnF h6 fun _ s7 ⟨x, H7, I7, r7, y7, st7, n7⟩ => ?_
      have I7' := I7.pinned (stat I7 n7) (T.obj _ _ st7)
      refine thnF (pg _ s7 _ H7 x u _ I7' r7 (step x H7 y7)) fun _ s8 ⟨σ8, H8, I8, hw8, q8⟩ => ?_
      refine thnF (pt _ s8 σ8 H8 _ I8 q8) fun b s9 ⟨H9, I9, q9⟩ => ?_
      -- the turn's end
      have fin : ∀ {s' : Shared} {H' : Hp}, Inv (X.blk s3 H3 scope ce fp) ([] ++ pinsAt fp s7.heap) σ8 H' s' → Nx H' → ∃ m, m < n ∧ ∃ i H', Inv (X.blk s3 H3 scope ce fp) [] (wipe σ (own.map (·.2))) H' s' ∧ tn i s'.heap ∧ (∀ b ∈ fp, H' b = none) ∧ W i m H' := fun {s' H'} I' nx => by
        obtain ⟨m', hm, w'⟩ := hNx H' nx
        have pin' : ∀ b ∈ fp, ∀ o, s7.heap.get? b = some o → s'.heap.get? b = some o ∧ H' b = none := fun b hb o e =>
          let z := I'.pin (b, o) (List.mem_append_right _ (List.mem_append_right _ (mem_pinsAt hb e)))
          ⟨z.1, z.2.1⟩
        have hl : (wipe σ (own.map (·.2))).length = σ8.length := by rw [← hw8, wipe_length]
        refine ⟨m', hm, i + 1, H', (I'.unpinned (pins := [])).weak hl (fun j v e => ?_), T.keep _ _ _ st7 fun b hb o e => (pin' b hb o e).1, fun b hb => ?_, w'⟩
        · rw [← hw8] at e
          exact (wipe_some e).1
        · obtain ⟨o, e, _⟩ := T.obj _ _ st7 b hb
          exact (pin' b hb o e).2
      cases b with
      | false =>
        simp only [Bool.false_eq_true, if_false] at q9 ⊢
        exact fin I9 q9
      | true =>
        simp only [if_true] at q9 ⊢
        refine thnF (pe _ s9 σ8 H9 _ I9 q9) fun z s10 ⟨yv, H10, I10, r10, acc, hD10, hz10, nx⟩ => ?_
        exact app_ok (X := X.blk s3 H3 scope ce fp) I10 hD10 hz10 r10 fun s11 I11 => fin I11 nx
  exact codeAny_compStart_list loop (T.self X.A 0 _ _ _ st4 loop)
/-- as a value -/
theorem pe_lc {elt tg iter : Expr} {ifs : List Expr} {scope : Scope} {own : List (Str × Nat)} {pos : Pos} {wi : TI} {g : TG} {tt : TT} {te : TE} (hc : X.calm = true) (hN : X.N.Nodup) (hi : PI X tg iter wi) (ok : BlkOk X.N X.env.scope scope own)
    (hg : ∀ (s : Shared) (H : Hp) (C : Addr) (cl : List (Str × Addr)) (fp : List Addr), PG (X.blk s H scope (compEnvC scope cl C X.env) fp) tg g) (ht : ∀ (s : Shared) (H : Hp) (C : Addr) (cl : List (Str × Addr)) (fp : List Addr), PTs (X.blk s H scope (compEnvC scope cl C X.env) fp) ifs tt)
    (he : ∀ (s : Shared) (H : Hp) (C : Addr) (cl : List (Str × Addr)) (fp : List Addr), PE (X.blk s H scope (compEnvC scope cl C X.env) fp) elt te) (hs : ∀ x, foldedSetIterable iter X.env x = pure x := by intro _; rfl) :
    PE X (.ListComp elt [⟨tg, iter, ifs, 0⟩] scope pos) (tLc wi g tt te (own.map (·.2))) := by
  intro pins s σ H Q I h
  rw [eval_ListComp]
  refine lc_core hc hN I hi ok hg ht he hs h fun D C s' m H' I' q hn f => ⟨m, hn, fun h'' sb => ?_⟩
  obtain ⟨f0, f1, f2, f3, f4, f5⟩ := f
  exact ⟨.ref D, H', I'.turned (t' := s'.toks) (fun b o hb e => (sb.2 b hb).trans e) f0 f1 f3 f4 f5, rfl, q⟩
/-- name = [..] on one line, the name a local -/
theorem ps_setLc {i : Nat} {y : Str} {py : Pos} {elt tg iter : Expr} {ifs : List Expr} {scope : Scope} {own : List (Str × Nat)} {pos spos : Pos} {wi : TI} {g : TG} {tt : TT} {te : TE} (hc : X.calm = true) (hN : X.N.Nodup) (hy : X.N[i]? = some y) (hyl : X.env.scope.names.lookup y = some .local)
    (hsw : swapsWith (.ListComp elt [⟨tg, iter, ifs, 0⟩] scope pos) (some (.Name y py)) spos.line X.env = pure true) (hi : PI X tg iter wi) (ok : BlkOk X.N X.env.scope scope own)
    (hg : ∀ (s : Shared) (H : Hp) (C : Addr) (cl : List (Str × Addr)) (fp : List Addr), PG (X.blk s H scope (compEnvC scope cl C X.env) fp) tg g) (ht : ∀ (s : Shared) (H : Hp) (C : Addr) (cl : List (Str × Addr)) (fp : List Addr), PTs (X.blk s H scope (compEnvC scope cl C X.env) fp) ifs tt)
    (he : ∀ (s : Shared) (H : Hp) (C : Addr) (cl : List (Str × Addr)) (fp : List Addr), PE (X.blk s H scope (compEnvC scope cl C X.env) fp) elt te) (hs : ∀ x, foldedSetIterable iter X.env x = pure x := by intro _; rfl) :
    PS X (.Assign [.Name y py] (.ListComp elt [⟨tg, iter, ifs, 0⟩] scope pos) spos) (tAsg (tLc wi g tt te (own.map (·.2))) (gName i)) := by
  intro pins s σ H D I h
  rw [exec_Assign_Name_used _ _ _ _ hsw]
  refine wpAny_bind (wpAny_standAt (wpAny_bind ?_))
  show wpAny _ X.A (do let _ ← comprehension (.ListComp elt [⟨tg, iter, ifs, 0⟩] scope pos) scope X.env (firstIterPos [⟨tg, iter, ifs, 0⟩] pos) (newList []) false (eval iter X.env) (some (assign (.Name y py) X.env))) _ _ s
  have h : tLc wi g tt te (own.map (·.2)) σ H (fun x H1 => gName i x σ H1 D.nx) := h
  refine wpAny_bind (thn (lc_core (Qf := fun _ s' => SP X pins D .next s') hc hN I hi ok hg ht he hs h fun L C s' m H' I' q hn f => ?_) fun _ s' hq => wpAny_pure (wpAny_pure hq))
  show wpAny _ _ (assign (.Name y py) X.env (.ref L)) _ _ _
  refine wpAny_assign_Name (store_ok2 (v := V.ref L) I' hN hy (.inl hyl) rfl (fun s2 I2 ⟨a, sb, ha⟩ => ?_) (.inr hyl))
  obtain ⟨f0, f1, f2, f3, f4, f5⟩ := f
  have haC : C ≠ a := by
    rcases ha with z | z
    · rw [z]; exact f1
    · exact fun e => f4 y a z e.symm
  refine ⟨m, hn.sameBut sb haC, fun h3 sb3 => ?_⟩
  exact ⟨_, H', I2.turned (t' := s2.toks) (fun b o hb e => (sb3.2 b hb).trans e) f0 f1 f3 f4 f5, q⟩
theorem sw_true {elt : Expr} {gs : List Comprehension} {scope : Scope} {pos py : Pos} {y : Str} {l : Nat} {env : Env} (hk : env.scope.kind = .function) (hy : env.scope.names.lookup y = some .local) (hl : (py.line == pos.line) = true)
    (ha : (scope.names.any fun (n, k) => n == y && (k == .local || k == .cell)) = false) : swapsWith (.ListComp elt gs scope pos) (some (.Name y py)) l env = pure true := by
  have ky : env.kindOf y = some .local := hy
  have hb : env.blockKind = .function := by unfold Env.blockKind; rw [hk]; rfl
  unfold swapsWith
  simp only [hb, ky, ha, Expr.pos, hl]
  rfl
end

/-! ### the forms one uses -/
/-- over a range: Pv by the turn and the heap (the new list at D within) -/
theorem lc_range {lo : Int} {n : Nat} {g : TG} {tt : TT} {te : TE} {vs : List Nat} {σ : St} {H1 : Hp} {D : Addr} {Qd : Hp → Prop} (Pv : Nat → Hp → Prop) (h0 : Pv 0 (upd H1 D (.lst [])))
    (hs : ∀ i H, i < n → Pv i H → g (.int (lo + i)) (wipe σ vs) H fun σ2 H2 => wipe σ2 vs = wipe σ vs ∧ tt σ2 H2 fun b H3 =>
      if b = true then te σ2 H3 fun y H4 => ∃ acc, H4 D = some (.lst acc) ∧ acc.length < sizeLine ∧ Pv (i + 1) (upd H4 D (.lst (acc ++ [y]))) else Pv (i + 1) H3) (hd : ∀ H, Pv n H → Qd H) :
    ∃ W : Nat → Nat → Hp → Prop, (∃ m, W 0 m (upd H1 D (.lst []))) ∧ ∀ i m H, W i m H →
      ((Itr lo n).stop i H ∧ Qd H) ∨ ((Itr lo n).go i H ∧ ∃ Nx : Hp → Prop, (∀ H', Nx H' → ∃ m', m' < m ∧ W (i + 1) m' H') ∧ ∀ x H', (Itr lo n).yld i H x H' → g x (wipe σ vs) H' fun σ2 H2 => wipe σ2 vs = wipe σ vs ∧ tt σ2 H2 fun b H3 =>
        if b = true then te σ2 H3 fun y H4 => ∃ acc, H4 D = some (.lst acc) ∧ acc.length < sizeLine ∧ Nx (upd H4 D (.lst (acc ++ [y]))) else Nx H3) := by
  refine ⟨fun i m H => m = n - i ∧ i ≤ n ∧ Pv i H, ⟨n, by simp, Nat.zero_le _, h0⟩, ?_⟩
  rintro i m H ⟨rfl, hi, p⟩
  by_cases hlt : i < n
  · refine .inr ⟨hlt, Pv (i + 1), fun H' p' => ⟨n - (i + 1), by omega, rfl, hlt, p'⟩, fun x H' y => ?_⟩
    obtain ⟨e, y⟩ := y
    subst e y
    exact hs i _ hlt p
  · have e : i = n := by omega
    subst e
    exact .inl ⟨Nat.le_refl _, hd H p⟩
/-- over a list that the block leaves as it is -/
theorem lc_list {K : PySem.W.Frag} {a : Addr} {xs : List V} {g : TG} {tt : TT} {te : TE} {vs : List Nat} {σ : St} {H1 : Hp} {D : Addr} {Qd : Hp → Prop} (Pv : Nat → Hp → Prop) (h0 : Pv 0 (upd H1 D (.lst []))) (hl : ∀ i H, i ≤ xs.length → Pv i H → SqL K H a xs)
    (hs : ∀ i x H, xs[i]? = some x → Pv i H → g x (wipe σ vs) H fun σ2 H2 => wipe σ2 vs = wipe σ vs ∧ tt σ2 H2 fun b H3 =>
      if b = true then te σ2 H3 fun y H4 => ∃ acc, H4 D = some (.lst acc) ∧ acc.length < sizeLine ∧ Pv (i + 1) (upd H4 D (.lst (acc ++ [y]))) else Pv (i + 1) H3) (hd : ∀ H, Pv xs.length H → Qd H) :
    ∃ W : Nat → Nat → Hp → Prop, (∃ m, W 0 m (upd H1 D (.lst []))) ∧ ∀ i m H, W i m H →
      ((Itl K a).stop i H ∧ Qd H) ∨ ((Itl K a).go i H ∧ ∃ Nx : Hp → Prop, (∀ H', Nx H' → ∃ m', m' < m ∧ W (i + 1) m' H') ∧ ∀ x H', (Itl K a).yld i H x H' → g x (wipe σ vs) H' fun σ2 H2 => wipe σ2 vs = wipe σ vs ∧ tt σ2 H2 fun b H3 =>
        if b = true then te σ2 H3 fun y H4 => ∃ acc, H4 D = some (.lst acc) ∧ acc.length < sizeLine ∧ Nx (upd H4 D (.lst (acc ++ [y]))) else Nx H3) := by
  refine ⟨fun i m H => m = xs.length - i ∧ i ≤ xs.length ∧ Pv i H, ⟨xs.length, by simp, Nat.zero_le _, h0⟩, ?_⟩
  rintro i m H ⟨rfl, hi, p⟩
  have q := hl i H hi p
  by_cases hlt : i < xs.length
  · refine .inr ⟨⟨xs, xs[i], q, by simp [hlt]⟩, Pv (i + 1), fun H' p' => ⟨xs.length - (i + 1), by omega, rfl, hlt, p'⟩, fun x H' y => ?_⟩
    obtain ⟨e, y⟩ := y
    subst e
    exact hs i x _ (y xs q) p
  · have e : i = xs.length := by omega
    subst e
    exact .inl ⟨⟨xs, q, Nat.le_refl _⟩, hd H p⟩
/-- over a tuple -/
theorem lc_tup {K : PySem.W.Frag} {a : Addr} {xs : List V} {g : TG} {tt : TT} {te : TE} {vs : List Nat} {σ : St} {H1 : Hp} {D : Addr} {Qd : Hp → Prop} (Pv : Nat → Hp → Prop) (h0 : Pv 0 (upd H1 D (.lst []))) (hl : ∀ i H, i ≤ xs.length → Pv i H → SqT K H a xs)
    (hs : ∀ i x H, xs[i]? = some x → Pv i H → g x (wipe σ vs) H fun σ2 H2 => wipe σ2 vs = wipe σ vs ∧ tt σ2 H2 fun b H3 =>
      if b = true then te σ2 H3 fun y H4 => ∃ acc, H4 D = some (.lst acc) ∧ acc.length < sizeLine ∧ Pv (i + 1) (upd H4 D (.lst (acc ++ [y]))) else Pv (i + 1) H3) (hd : ∀ H, Pv xs.length H → Qd H) :
    ∃ W : Nat → Nat → Hp → Prop, (∃ m, W 0 m (upd H1 D (.lst []))) ∧ ∀ i m H, W i m H →
      ((Itt K a).stop i H ∧ Qd H) ∨ ((Itt K a).go i H ∧ ∃ Nx : Hp → Prop, (∀ H', Nx H' → ∃ m', m' < m ∧ W (i + 1) m' H') ∧ ∀ x H', (Itt K a).yld i H x H' → g x (wipe σ vs) H' fun σ2 H2 => wipe σ2 vs = wipe σ vs ∧ tt σ2 H2 fun b H3 =>
        if b = true then te σ2 H3 fun y H4 => ∃ acc, H4 D = some (.lst acc) ∧ acc.length < sizeLine ∧ Nx (upd H4 D (.lst (acc ++ [y]))) else Nx H3) := by
  refine ⟨fun i m H => m = xs.length - i ∧ i ≤ xs.length ∧ Pv i H, ⟨xs.length, by simp, Nat.zero_le _, h0⟩, ?_⟩
  rintro i m H ⟨rfl, hi, p⟩
  have q := hl i H hi p
  by_cases hlt : i < xs.length
  · refine .inr ⟨⟨xs, xs[i], q, by simp [hlt]⟩, Pv (i + 1), fun H' p' => ⟨xs.length - (i + 1), by omega, rfl, hlt, p'⟩, fun x H' y => ?_⟩
    obtain ⟨e, y⟩ := y
    subst e
    exact hs i x _ (y xs q) p
  · have e : i = xs.length := by omega
    subst e
    exact .inl ⟨⟨xs, q, Nat.le_refl _⟩, hd H p⟩
def blkC (N : List Str) (sc scope : Scope) (own : List (Str × Nat)) : Bool :=
  (match scope.kind with | .function => true | _ => false) && (scope.names.all fun y => decide (scope.names.lookup y.1 = some y.2)) && (own.all fun p => decide (N[p.2]? = some p.1)) &&
    (scope.names.all fun y => match y.2 with
      | .free => (match sc.names.lookup y.1 with | some .cell => true | some .free => true | _ => false)
      | .local => decide (y.1 ∈ own.map (·.1)) || decide (y.1 ∉ N)
      | .cell => decide (y.1 ∈ own.map (·.1)) || decide (y.1 ∉ N)
      | _ => true)
theorem blkOk_by {N : List Str} {sc scope : Scope} {own : List (Str × Nat)} (h : blkC N sc scope own = true) : BlkOk N sc scope own := by
  unfold blkC at h
  simp only [Bool.and_eq_true, List.all_eq_true, decide_eq_true_eq] at h
  obtain ⟨⟨⟨h1, h2⟩, h3⟩, h4⟩ := h
  refine ⟨?_, h2, h3, fun y hy e => ?_, fun y hy e => ?_⟩
  · split at h1
    · assumption
    · cases h1
  · have q := h4 y hy
    simp only [e] at q
    split at q <;> first | exact .inl (by assumption) | exact .inr (by assumption) | cases q
  · have q := h4 y hy
    rcases e with e | e <;> (simp only [e, Bool.or_eq_true, decide_eq_true_eq] at q; exact q)
end L2

namespace L2
open PySem PySem.Spec PyProof.Rows

section
variable {prog : Program} {w : World} {A : Around} {R : Result → Shared → Prop} {s : Shared} {elt t0 i0 t1 i1 : Expr} {ifs0 ifs1 : List Expr} {scope : Scope} {pos : Pos} {it acc : Value} {env : Env}
end

section
variable {X : Cx}
end
end L2

namespace L2
open PySem PySem.Spec PyProof.Rows

/-! ### lists of pairs as tables -/
section
variable {κ : Type} [DecidableEq κ]
end


/-! ### a tracked dict, its keys ints and texts or tuples of these -/
section
variable {P : Program} {w : World} {H : Hp} {h : Heap} {a : Addr}
end

section
variable {X : Cx} {pins : List (Addr × Obj)} {σ : St} {H : Hp} {s : Shared} {a : Addr} {y v : V} {u r : Value} {o : Option V} {A : Around} {E : Value → Shared → Prop}

end

section
variable {X : Cx} {pins : List (Addr × Obj)} {σ : St} {H : Hp} {s : Shared} {a : Addr} {kvs : List (Key × V)} {k : Key} {u : Value} {A : Around} {E : Value → Shared → Prop}
end


/-! ### readings and rules -/
section
variable {X : Cx} {o i e value : Expr} {pos pos' tpos : Pos} {td ty tv : TE}
end


/-! ### displays -/
section
variable {X : Cx} {pos : Pos}
end

/-! ### methods -/
/-- a method call o.m(e) of a built-in, with one argument: what must be seen of the text -/
structure M1 (X : Cx) (o : Expr) (m : Str) (apos : Pos) (e : Expr) (cpos : Pos) : Prop where
  base : attributeBase o m X.env (eval o X.env) = eval o X.env
  few : ((backTo cpos (starEach [e] X.env)).all (fun x => !x.1) && (backToKw cpos (keywordEach [] X.env)).all (fun x => x.1.isSome)
    && decide (([e] : List Expr).length + ([] : List Keyword).length + (if ([] : List Keyword).isEmpty then 0 else 1) < 30)) = true
  line : (apos.endLine == cpos.line) = true
  trees : backTo cpos (starEach [e] X.env) = [(false, eval e X.env)]
structure M2 (X : Cx) (o : Expr) (m : Str) (apos : Pos) (e f : Expr) (cpos : Pos) : Prop where
  base : attributeBase o m X.env (eval o X.env) = eval o X.env
  few : ((backTo cpos (starEach [e, f] X.env)).all (fun x => !x.1) && (backToKw cpos (keywordEach [] X.env)).all (fun x => x.1.isSome)
    && decide (([e, f] : List Expr).length + ([] : List Keyword).length + (if ([] : List Keyword).isEmpty then 0 else 1) < 30)) = true
  line : (apos.endLine == cpos.line) = true
  trees : backTo cpos (starEach [e, f] X.env) = [(false, eval e X.env), (false, eval f X.env)]

section
variable {X : Cx} {pins : List (Addr × Obj)} {σ : St} {H : Hp} {s : Shared} {a : Addr} {y d : V} {u r : Value} {o : Option V} {A : Around} {E : Value → Shared → Prop}
end

section
variable {X : Cx} {o e f : Expr} {apos cpos : Pos} {td ty tx : TE}
end

/-! ### dict(d): a copy -/
section
variable {X : Cx} {pins : List (Addr × Obj)} {σ : St} {H : Hp} {s : Shared} {a : Addr} {kvs : List (Key × V)} {A : Around} {E : Value → Shared → Prop}
end


section
variable {X : Cx} {pins : List (Addr × Obj)} {σ : St} {H : Hp} {s : Shared} {a : Addr} {y : V} {u : Value} {A : Around} {E : Value → Shared → Prop}
end
end L2

namespace L2
open PySem PySem.Spec PyProof.Rows

section
variable {prog : Program} {w : World} {A : Around} {E : Value → Shared → Prop}
end

section
variable {X : Cx}
end
end L2

namespace L2
open PySem PySem.Spec PyProof.Rows

theorem boot_reversed5 : bootBuiltins "reversed" = some (.type "reversed") := by decide +kernel

section
variable {X : Cx} {pins : List (Addr × Obj)} {σ : St} {H : Hp} {s : Shared} {h' : Heap}
/-! ### locking a thing while a statement runs -/
end
section
variable {X : Cx}
/-! ### one iterator just laid -/
theorem pi_one {tg : Expr} {pins : List (Addr × Obj)} {σ : St} {H : Hp} {s : Shared} {R : It → Hp → Prop} {J : It} {tn : Nat → Heap → Prop} {tk : Nat} (I : Inv X pins σ H s) (o : Obj)
    (T : Turn X.prog X.w X.K tg J [s.heap.objs.size] s.heap.objs.size tn) (st : tn 0 (s.heap.push o)) (q : R J H) : PIE X pins σ tg R (.ref s.heap.objs.size) { s with heap := s.heap.push o, toks := tk } := by
  refine ⟨s.heap.objs.size, [s.heap.objs.size], tn, J, H, rfl, I.kept fun b ob e => Heap.get?_push_of_some _ e, T, st, fun b hb => ?_, q⟩
  have e : b = s.heap.objs.size := by simpa using hb
  subst e
  exact I.fpOk (Nat.le_refl _) (I.hok.fresh (Nat.le_refl _))
end

/-! ### range with a step -/
section
variable {X : Cx} {tg : Expr}
end
/-! ### reversed(list) -/
/-- the list at a (n items at the start, which the loop leaves there), from its end -/
def Itv (K : PySem.W.Frag) (a : Addr) (n : Nat) : It :=
  ⟨fun i H => i < n ∧ ∃ (xs : List V) (x : V), SqL K H a xs ∧ xs[n - 1 - i]? = some x, fun i H x H' => H' = H ∧ ∀ xs, SqL K H a xs → xs[n - 1 - i]? = some x, fun i _ => n ≤ i⟩
theorem turn_rev {P : Program} {w : World} {K : PySem.W.Frag} {tg : Expr} (a it : Addr) (n : Nat) : Turn P w K tg (Itv K a n) [it] it (fun i h => i ≤ n ∧ h.IsRevIter it a ((n : Int) - 1 - (i : Nat))) where
  mem := by simp
  obj := fun i h st b hb => by
    have e : b = it := by simpa using hb
    subst e
    obtain ⟨_, o, e, c, d⟩ := st
    exact ⟨o, e, fun v z => by rw [d] at z; cases z⟩
  keep := fun i h h' st k => ⟨st.1, st.2.at fun o e => k it (by simp) o e⟩
  item := by
    intro X hP hw hK hc i pins s σ H E I hf st hg
    subst hP hw hK
    obtain ⟨hin, xs, x, hq, hx⟩ := hg
    obtain ⟨its, rv, p, hz⟩ := I.list hq
    obtain ⟨u, hu, ru⟩ := rv.get hx
    obtain ⟨f0, f1, f2, f3, f4, f5⟩ := hf it (by simp)
    obtain ⟨_, hit⟩ := st
    have e1 : (n : Int) - 1 - ((i : Nat) : Int) = ((n - 1 - i : Nat) : Int) := by omega
    rw [e1] at hit
    refine wpAny_pyNext_rev_item hit p.isList (x := u) (by simpa using hu) fun h' st' sb => ?_
    have e2 : ((n - 1 - i : Nat) : Int) - 1 = (n : Int) - 1 - ((i + 1 : Nat) : Int) := by omega
    rw [e2] at st'
    have I1 : Inv X pins σ H { s with heap := h' } := I.turned (t' := s.toks) (fun b o hb e => (sb.2 b hb).trans e) f0 f1 f3 f4 f5
    obtain ⟨o, e, c, d⟩ := id st'
    exact ⟨u, rfl, go_of (s := { s with heap := h' }) e c d (by decide) ⟨x, H, I1, ru, ⟨rfl, fun ys hy => by rw [I.list_inj hy hq]; exact hx⟩, ⟨hin, st'⟩, fun b hb => (hf b hb).1⟩⟩
  done := by
    intro X hP hw hK hc i pins s σ H E I hf st hg
    subst hP hw hK
    obtain ⟨f0, f1, f2, f3, f4, f5⟩ := hf it (by simp)
    obtain ⟨hin, hit⟩ := st
    have hge : n ≤ i := hg
    have e1 : (n : Int) - 1 - ((i : Nat) : Int) = -1 := by omega
    rw [e1] at hit
    exact wpAny_pyNext_rev_end (I.ok.hd hc) hit fun h' eb => ⟨rfl, I.turned (t' := s.toks) (fun b o hb e => eb b o hb e) f0 f1 f3 f4 f5⟩
  self := fun A i s Q E st h => wpAny_pyIter_revIter st.2 h
def iRev (K : PySem.W.Frag) (ta : TA) : TI := fun σ H R => ta σ H fun vs H1 => ∃ (a : Addr) (xs : List V), vs = [.ref a] ∧ SqL K H1 a xs ∧ R (Itv K a xs.length) H1
section
variable {X : Cx} {tg : Expr}
theorem pi_reversed {e : Expr} {ta : TA} {p pos : Pos} (hg : Gl X "reversed") (hm : X.mg "reversed" = none) (ha : PA X [e] ta) (hs : starEach [e] X.env = [(false, eval e X.env)] := by rfl) : PI X tg (.Call (.Name "reversed" p) [e] [] pos) (iRev X.K ta) := by
  intro pins s σ H R I h
  refine Call_ (ld_blt I hg hm boot_reversed5 (PyProof.Rows.callWith_type1 (thn (ha pos pins s σ H _ I h) fun us s1 ⟨vs, H1, I1, r1, q1⟩ => ?_) hs rfl))
  obtain ⟨a, xs, e, hq, q⟩ := q1
  subst e
  cases r1 with
  | cons r rr =>
    cases rr
    cases r
    obtain ⟨its, rv, p', hz⟩ := I1.list hq
    have hl := rv.length
    have e1 : ((its.toArray.size : Nat) : Int) - 1 = (xs.length : Int) - 1 - ((0 : Nat) : Int) := by simp only [List.size_toArray]; omega
    refine call_reversed_list p'.isList (wpAny_pyIter_revIter (l := a) (i := ((its.toArray.size : Nat) : Int) - 1) ⟨_, Heap.get?_push_size _ rfl, rfl, rfl⟩ ?_)
    refine pi_one (tk := s1.toks) I1 _ (turn_rev a _ xs.length) ⟨Nat.zero_le _, ?_⟩ q
    rw [← e1]
    exact ⟨_, Heap.get?_push_size _ rfl, rfl, rfl⟩
end

/-! ### a str -/
/-! ### a dict's keys: any dict's entries -/
section
variable {prog : Program} {w : World} {A : Around} {E : Value → Shared → Prop} {s : Shared}
end

/-! ### a locked dict -/
section
variable {X : Cx} {pins : List (Addr × Obj)} {σ : St} {H : Hp} {s : Shared} {d : Addr} {o : Obj}
end

section
variable {P : Program} {w : World} {K : PySem.W.Frag} {tg : Expr} {d : Addr} {o : Obj} {es : Array DictEntry} {ep : Nat}
end

/-! ### for k in d, d.keys(), d.values(), d.items() -/
section
variable {X : Cx} {tg e : Expr} {td : TE} {apos cpos : Pos}
end

/-! ### enumerate(list) -/
/-! ### zip(list, list) -/
end L2

section 
namespace Bits
open PySem PyProof.Rows

/-- (x >> i) & 1 -/
theorem bit_at {x : Int} (i : Nat) : Builtin.bitAnd (x.fdiv (2 ^ i)) 1 = x / 2 ^ i % 2 := by
  have hp : (0 : Int) ≤ 2 ^ i := by
    rw [two_pow_cast]
    exact Int.natCast_nonneg _
  rw [Int.fdiv_eq_ediv_of_nonneg _ hp, bitAnd_m1]

end Bits
end 

section 
namespace TL
open PySem PySem.Builtin PySem.Builtin.Str PySem.StrLaws

/-! ### the list functions -/
/-! ### the model's split and partition are these -/
/-! ### computing spl and par -/
/-! ### digits -/
/-! ### words: x.split() -/
end TL
end 

namespace L2
open PySem PySem.Spec PyProof.Rows

section
variable {X : Cx} {pins : List (Addr × Obj)} {σ : St} {H : Hp} {s : Shared} {Q : VK}
end

section
variable {X : Cx}

/-! ### of a text alone -/
/-! ### of a text and a text -/
end

section
variable {X : Cx} {o e : Expr} {to te : TE}
end
end L2

namespace L2
open PySem PySem.Spec PyProof.Rows

section
variable {X : Cx}
end

/-! ### slices of a text -/
end L2

namespace Att
open PySem PySem.W PySem.Calls PyProof.Rows

/-! ### the script -/
/-! ### the attachment: holds_open's last premise (the goal 'hc' behind k_head) from a wpAny of the law's body -/
/-! ### rules over ANY heap (no ledger) from facts about the written part K: the library's own take a ledger (News) for what they write -/
section
variable {prog : Program} {w : World} {A : Around} {E : Value → Shared → Prop} {s : Shared} {K : Frag}

/-! the whole heap as the ledger: makes every rule that writes through a ledger a rule over any heap -/
end
end Att

namespace L2
open PySem PySem.Spec PyProof.Rows

end L2

namespace L2
open PySem PySem.Spec PyProof.Rows

end L2

/-! SHORT WORDS over the layer: a def of the text, its body, what a loop and a test want. -/
namespace L2
open PySem PySem.Spec PyProof.Rows

/-! ### the text by places -/
def defArgs (s : Stmt) : Arguments := match s with
  | .FunctionDef _ a _ _ _ _ _ _ _ _ => a
  | _ => { posonlyargs := [], args := [], vararg := none, kwonlyargs := [], kw_defaults := [], kwarg := none, defaults := [] }
def defBody (s : Stmt) : List Stmt := match s with
  | .FunctionDef _ _ b _ _ _ _ _ _ _ => b
  | _ => []
def defScope (s : Stmt) : Scope := match s with
  | .FunctionDef _ _ _ _ _ _ sc _ _ _ => sc
  | _ => { kind := .function, names := [], isGenerator := false, isCoroutine := false }

/-! ### no exception leaves a def -/
abbrev CX0 : CXT := fun _ _ _ _ _ _ => False
abbrev E0 : XK := fun _ _ _ => False
theorem pass0 {X : Cx} : Passes CX0 X E0 := fun _ _ _ _ _ _ _ h => h.elim

/-! ### a def (or method) of the text as it stands behind the top -/
structure Fun (K : PySem.W.Frag) (x qual : Str) (st : Stmt) (f : Addr) (fd : FuncData) : Prop where
  ex : ∃ (oc : Value) (od : Option Addr) (kV doc pm : Value) (an : Option Addr) (cdv ct : Value) (osl : Array (Option Value)),
    fd = PySem.W.fnOf x qual (defArgs st) (defBody st) (defScope st) .none kV doc pm an cdv ct ∧ K.lookup f = some ⟨oc, od, .func fd, osl⟩ ∧ PySem.W.codeIn K cdv qual = true
  kp : PySem.W.keepIn K (.ref f) = true
section
variable {P : Program} {w : World} {K : PySem.W.Frag} {mg : Str → Option Value} {base : Heap}
/-- THE RULE for a def: its body as a term of rules, and the reading of that term -/
theorem Fun.ok {x qual : Str} {st : Stmt} {f : Addr} {fd : FuncData} {N ps : List Str} {k : Nat} {sp : Sp} (F : Fun K x qual st f fd) (S : FnScope N ps (defScope st)) (len : ∀ vs H Q E, sp vs H Q E → vs.length = ps.length)
    (hbody : ∀ (cdv : Value) (A : Around) (outer : List Env) (s : Shared) (H : Hp) (vs : List V) (Q : VK) (E : XK), Room k (A.deeper (envOfC qual (defScope st) s.heap.objs.size f cdv)) → sp vs H Q E →
      ∃ t, PSs (cxOf CX0 P w K mg base N qual (defScope st) f cdv A outer s H E).nox (defBody st) t ∧ t { nx := fun _ H' => Q .non H', rt := Q } (start N vs) H) : FnOk P w K mg base CX0 (k + 1) f fd ps sp := by
  obtain ⟨oc, od, kV, doc, pm, an, cdv, ct, osl, rfl, lk, hcd⟩ := F.ex
  refine fn_of lk hcd S len fun A outer s H vs Q E hr hsp => ?_
  obtain ⟨t, h, q⟩ := hbody cdv A outer s H vs Q E hr hsp
  exact ⟨t, h.nox, q⟩
/-- how its arguments bind (no defaults): h is «fun _ _ _ _ _ _ us hl => match us, hl with | [_, _], _ => rfl», one _ a parameter -/
theorem Fun.binds {x qual : Str} {st : Stmt} {f : Addr} {fd : FuncData} {ps : List Str} (F : Fun K x qual st f fd)
    (h : ∀ (kV doc pm : Value) (an : Option Addr) (cdv ct : Value) (us : List Value), us.length = ps.length → bindArgs (PySem.W.fnOf x qual (defArgs st) (defBody st) (defScope st) .none kV doc pm an cdv ct) ⟨us, []⟩ = pure (ps.zip us)) : Binds K fd ps [] := by
  obtain ⟨oc, od, kV, doc, pm, an, cdv, ct, osl, rfl, lk, hcd⟩ := F.ex
  exact .all (h kV doc pm an cdv ct)
theorem fun_mk {x qual : Str} {st : Stmt} {f : Addr} {oc : Value} {od an : Option Addr} {osl : Array (Option Value)} {kV doc pm cdv ct : Value} (l : K.lookup f = some ⟨oc, od, .func (PySem.W.fnOf x qual (defArgs st) (defBody st) (defScope st) .none kV doc pm an cdv ct), osl⟩)
    (c : PySem.W.codeIn K cdv qual = true) (k : PySem.W.keepIn K (.ref f) = true) : Fun K x qual st f (PySem.W.fnOf x qual (defArgs st) (defBody st) (defScope st) .none kV doc pm an cdv ct) := ⟨⟨oc, od, kV, doc, pm, an, cdv, ct, osl, rfl, l, c⟩, k⟩
end
theorem small1000 {n : Nat} (h : n ≤ 1000) : n < sizeLine := Nat.lt_of_le_of_lt h (by decide)

/-! ### expressions in short: the name that stands in the i-th slot -/
section
variable {X : Cx}
theorem pv (i : Nat) {x : Str} {pos : Pos} (hN : X.N[i]? = some x := by rfl) (hv : Vis X.env.scope x := by first | exact Or.inl rfl | exact Or.inr (Or.inl rfl) | exact Or.inr (Or.inr rfl)) (hd : (x == ("__debug__" : Str)) = false := by decide)
    (hcd : (x == ("__classdict__" : Str)) = false := by decide) : PE X (.Name x pos) (tVar i) := pe_var hN hv hd hcd
end

/-! ### tests -/
theorem iteF {A B : Prop} (h : B) : if false = true then A else B := by
  rw [if_neg Bool.false_ne_true]
  exact h
theorem iteT {A B : Prop} (h : A) : if true = true then A else B := by
  rw [if_pos rfl]
  exact h
theorem ite2 {c A B : Prop} [Decidable c] (h1 : c → A) (h2 : ¬ c → B) : if c then A else B := by
  by_cases h : c
  · rw [if_pos h]
    exact h1 h
  · rw [if_neg h]
    exact h2 h
/-! ### heaps -/
/-- all that was tracked is as it was -/
def Same (H H' : Hp) : Prop := ∀ b o, H b = some o → H' b = some o
theorem Same.refl (H : Hp) : Same H H := fun _ _ h => h
theorem Same.trans {H H1 H2 : Hp} (a : Same H H1) (b : Same H1 H2) : Same H H2 := fun c o h => b c o (a c o h)
theorem Same.free {H H' : Hp} (e : Same H H') {l : Addr} (h : H' l = Option.none) : H l = Option.none := by
  cases q : H l with
  | none => rfl
  | some o =>
    rw [e l o q] at h
    cases h
theorem Same.seq {K : PySem.W.Frag} {H H' : Hp} {a : Addr} {xs : List V} (e : Same H H') (h : SqL K H a xs) : SqL K H' a xs := by
  rcases h with (h | ⟨o, h⟩) | h
  · exact .inl (.inl (e _ _ h))
  · exact .inl (.inr ⟨o, e _ _ h⟩)
  · exact .inr h

/-! ### a dict's pairs: keys that differ -/
section
variable {κ : Type} [DecidableEq κ]
end
/-! ### lists -/
theorem nd_ix {α : Type} {l : List α} (hN : l.Nodup) {i j : Nat} {x : α} (a : l[i]? = some x) (b : l[j]? = some x) : i = j := by
  obtain ⟨h1, e1⟩ := List.getElem?_eq_some_iff.mp a
  obtain ⟨h2, e2⟩ := List.getElem?_eq_some_iff.mp b
  exact (List.getElem_inj hN).mp (e1.trans e2.symm)
end L2

end
section
set_option Elab.async false
set_option linter.all false
set_option maxRecDepth 100000
set_option maxHeartbeats 2000000
namespace L2
open PySem PySem.Spec PyProof.Rows
open PySem.W (WData Codec OpenSpec Well WellAll ReadsW ReadsAllW)
/-! ### an answer as data -/
mutual
/-- x stands for the datum d, lists and tuples all the way -/
inductive Dw (K : PySem.W.Frag) (H : Hp) : V → WData → Prop
  | non : Dw K H .non .none
  | bl (b : Bool) : Dw K H (.bl b) (.bool b)
  | int (i : Int) : Dw K H (.int i) (.int i)
  | str (x : Str) : Dw K H (.str x) (.str x)
  | byt (b : Array UInt8) : Dw K H (.byt b) (.bytes b.toList)
  | lst {a : Addr} {xs : List V} {ds : List WData} : SqL K H a xs → DwAll K H xs ds → Dw K H (.ref a) (.list ds)
  | tup {a : Addr} {xs : List V} {ds : List WData} : SqT K H a xs → DwAll K H xs ds → Dw K H (.ref a) (.tuple ds)
inductive DwAll (K : PySem.W.Frag) (H : Hp) : List V → List WData → Prop
  | nil : DwAll K H [] []
  | cons {v : V} {vs : List V} {d : WData} {ds : List WData} : Dw K H v d → DwAll K H vs ds → DwAll K H (v :: vs) (d :: ds)
end
theorem dw_ints {K : PySem.W.Frag} {H : Hp} : ∀ ns : List Int, DwAll K H (ns.map V.int) (ns.map WData.int)
  | [] => .nil
  | n :: r => .cons (.int n) (dw_ints r)
theorem ints_dw {K : PySem.W.Frag} {H : Hp} : ∀ (ns : List Int) (xs : List V), DwAll K H xs (ns.map WData.int) → xs = ns.map V.int
  | [], xs, h => by
    cases h
    rfl
  | n :: r, xs, h => by
    cases h with
    | cons h1 h2 =>
      cases h1
      rw [ints_dw r _ h2] <;> rfl
section
variable {P : Program} {w : World} {K : PySem.W.Frag} {H : Hp} {h : Heap} {R : PySem.W.WRecords} {cl : Str → Option Addr}
theorem sqL_at {a : Addr} {xs : List V} (hok : HOk P w H h) (KX : K.In h) (q : SqL K H a xs) : ∃ (its : List Value) (o : Obj) (n : Nat), Vals xs its ∧ h.get? a = some o ∧ o.cls = .type "list" ∧ o.data = .seq its.toArray n := by
  rcases q with q | ⟨o, its, n, e, hc, _, hd, _, hv⟩
  · obtain ⟨_, its, n, hv, e⟩ := (show ObjOk P w H h a (.lst xs) from q.ok hok)
    exact ⟨its, _, n, hv, e, rfl, rfl⟩
  · exact ⟨its.toList, o, n, hv, KX _ _ e, hc, by simp [hd]⟩
theorem sqT_at {a : Addr} {xs : List V} (hok : HOk P w H h) (KX : K.In h) (q : SqT K H a xs) : ∃ (its : List Value) (o : Obj) (n : Nat), Vals xs its ∧ h.get? a = some o ∧ o.cls = .type "tuple" ∧ o.data = .seq its.toArray n := by
  rcases q with q | ⟨o, its, n, e, hc, hd, _, hv⟩
  · obtain ⟨_, its, hv, o, e, hc, n, hd⟩ := (show ObjOk P w H h a (.tup xs) from q.ok hok)
    exact ⟨its, o, n, hv, e, hc, hd⟩
  · exact ⟨its.toList, o, n, hv, KX _ _ e, hc, by simp [hd]⟩
mutual
theorem Dw.reads (hok : HOk P w H h) (KX : K.In h) : ∀ (d : WData) (v : V) (u : Value), Dw K H v d → RelV v u → ∃ as, ReadsW R cl h u d as
  | .none, _, _, x, r => by
    cases x
    cases r
    exact ⟨_, ReadsW.none⟩
  | .bool b, _, _, x, r => by
    cases x
    cases r
    exact ⟨_, ReadsW.bool b⟩
  | .int i, _, _, x, r => by
    cases x
    obtain ⟨t, rfl⟩ := r
    exact ⟨_, ReadsW.int i t⟩
  | .str s, _, _, x, r => by
    cases x
    obtain ⟨t, rfl⟩ := r
    exact ⟨_, ReadsW.str s t⟩
  | .bytes b, _, _, x, r => by
    cases x
    obtain ⟨t, rfl⟩ := r
    exact ⟨_, ReadsW.bytes _ t⟩
  | .list ds, _, _, x, r => by
    cases x with
    | lst hs ha =>
      cases r
      obtain ⟨its, o, n, rv, ho, hc, hd⟩ := sqL_at hok KX hs
      obtain ⟨as, hr⟩ := Dw.readsAll hok KX ds _ its ha rv
      exact ⟨_, ReadsW.list ho hc hd hr⟩
  | .tuple ds, _, _, x, r => by
    cases x with
    | tup hs ha =>
      cases r
      obtain ⟨its, o, n, rv, ho, hc, hd⟩ := sqT_at hok KX hs
      obtain ⟨as, hr⟩ := Dw.readsAll hok KX ds _ its ha rv
      exact ⟨_, ReadsW.tuple ho hc hd hr⟩
  | .float _, _, _, x, _ => by cases x
  | .dict _, _, _, x, _ => by cases x
  | .bytearray _, _, _, x, _ => by cases x
  | .set _, _, _, x, _ => by cases x
  | .frozenset _, _, _, x, _ => by cases x
  | .obj _ _, _, _, x, _ => by cases x
theorem Dw.readsAll (hok : HOk P w H h) (KX : K.In h) : ∀ (ds : List WData) (vs : List V) (us : List Value), DwAll K H vs ds → Vals vs us → ∃ as, ReadsAllW R cl h us ds as
  | [], _, _, x, r => by
    cases x
    cases r
    exact ⟨_, ReadsAllW.nil⟩
  | d :: ds, _, _, x, r => by
    cases x with
    | cons h1 h2 =>
      cases r with
      | cons r1 r2 =>
        obtain ⟨as, q1⟩ := Dw.reads hok KX d _ _ h1 r1
        obtain ⟨bs, q2⟩ := Dw.readsAll hok KX ds _ _ h2 r2
        exact ⟨_, ReadsAllW.cons q1 q2⟩
end
end
/-! ### the arguments -/
mutual
/-- data that a codec tells -/
def plW : WData → Bool
  | .none => true
  | .bool _ => true
  | .int _ => true
  | .str _ => true
  | .bytes _ => true
  | .list xs => plWs xs
  | .tuple xs => plWs xs
  | _ => false
def plWs : List WData → Bool
  | [] => true
  | x :: r => plW x && plWs r
end
theorem plWs_map {α : Type} {f : α → WData} (h : ∀ a, plW (f a) = true) : ∀ l : List α, plWs (l.map f) = true
  | [] => rfl
  | x :: r => by
    show (plW (f x) && plWs (r.map f)) = true
    rw [h x, plWs_map h r] <;> rfl
theorem pl_enc : ∀ (c : Codec) (a : c.denote), plW (c.enc a) = true
  | .unit, _ => rfl
  | .bool, _ => rfl
  | .int _ _, _ => rfl
  | .nat _ _, _ => rfl
  | .u8, _ => rfl
  | .bytes _ _, _ => rfl
  | .text _ _ _ _, _ => rfl
  | .list _ _ c, a => plWs_map (fun x => pl_enc c x) a
  | .pair c d, a => by
    show (plW (c.enc a.1) && (plW (d.enc a.2) && true)) = true
    rw [pl_enc c a.1, pl_enc d a.2] <;> rfl
  | .triple c d e, a => by
    show (plW (c.enc a.1) && (plW (d.enc a.2.1) && (plW (e.enc a.2.2) && true))) = true
    rw [pl_enc c a.1, pl_enc d a.2.1, pl_enc e a.2.2] <;> rfl
  | .option c, none => rfl
  | .option c, some x => pl_enc c x
theorem pl_encAll : ∀ (cs : List Codec) (a : Codec.denoteAll cs), plWs (Codec.encAll cs a) = true
  | [], _ => rfl
  | c :: cs, a => by
    show (plW (c.enc a.1) && plWs (Codec.encAll cs a.2)) = true
    rw [pl_enc c a.1, pl_encAll cs a.2] <;> rfl
theorem weight_mem : ∀ {xs : List WData} {d : WData}, d ∈ xs → d.weight ≤ WData.weightAll xs
  | [], d, h => absurd h (by simp)
  | x :: r, d, h => by
    show d.weight ≤ x.weight + 1 + WData.weightAll r
    rcases List.mem_cons.mp h with e | m
    · rw [e]
      omega
    · have z := weight_mem m
      omega
def toV : Value → V
  | .none => .non
  | .bool b => .bl b
  | .int i _ => .int i
  | .str x _ => .str x
  | .bytes b _ => .byt b
  | .ref a => .ref a
  | _ => .non
/-- a value of the arguments, its objects among A -/
def OkU (A : List Addr) : Value → Prop
  | .none => True
  | .bool _ => True
  | .int _ _ => True
  | .str _ _ => True
  | .bytes _ _ => True
  | .ref a => a ∈ A
  | _ => False
theorem OkU.mono {A B : List Addr} (h : ∀ a ∈ A, a ∈ B) : ∀ {u : Value}, OkU A u → OkU B u := fun {u} x => by
  cases u with
  | ref a => exact h a x
  | none => trivial
  | bool b => trivial
  | int i t => trivial
  | str s t => trivial
  | bytes b t => trivial
  | _ => exact False.elim x
theorem relV_toV {A : List Addr} {u : Value} (x : OkU A u) : RelV (toV u) u := by
  cases u with
  | ref a => rfl
  | none => rfl
  | bool b => rfl
  | int i t => exact ⟨t, rfl⟩
  | str s t => exact ⟨t, rfl⟩
  | bytes b t => exact ⟨t, rfl⟩
  | _ => exact False.elim x
theorem vals_toV {A : List Addr} : ∀ {vs : List Value}, (∀ u ∈ vs, OkU A u) → Vals (vs.map toV) vs
  | [], _ => .nil
  | u :: r, h => .cons (relV_toV (h u (List.mem_cons_self ..))) (vals_toV fun x hx => h x (List.mem_cons_of_mem _ hx))
/-- an object of the arguments -/
def ArgOb (h : Heap) (A : List Addr) (a : Addr) : Prop := ∃ vs : List Value, vs.length ≤ sizeLine ∧ (∀ u ∈ vs, OkU A u) ∧
  (h.get? a = some { cls := .type "list", data := .seq vs.toArray } ∨ h.get? a = some { cls := .type "tuple", data := .seq vs.toArray })
theorem ArgOb.mono {h : Heap} {A B : List Addr} {a : Addr} (k : ∀ a ∈ A, a ∈ B) (x : ArgOb h A a) : ArgOb h B a := by
  obtain ⟨vs, h1, h2, h3⟩ := x
  exact ⟨vs, h1, fun u hu => (h2 u hu).mono k, h3⟩
theorem wellAll_len {P : Params} {h : Heap} : ∀ {vs : List Value} {ds : List WData}, WellAll P h vs ds → vs.length = ds.length
  | _, _, .nil => rfl
  | _, _, .cons _ b => by
    show _ + 1 = _ + 1
    rw [wellAll_len b]
theorem well_list {P : Params} {h : Heap} {v : Value} {ds : List WData} (x : Well P h v (.list ds)) : ∃ (a : Addr) (vs : List Value), v = .ref a ∧ h.get? a = some { cls := .type "list", data := .seq vs.toArray } ∧ WellAll P h vs ds := by
  cases x with
  | list ho hall => exact ⟨_, _, rfl, ho, hall⟩
theorem well_tuple {P : Params} {h : Heap} {v : Value} {ds : List WData} (x : Well P h v (.tuple ds)) : ∃ (a : Addr) (vs : List Value), v = .ref a ∧ h.get? a = some { cls := .type "tuple", data := .seq vs.toArray } ∧ WellAll P h vs ds := by
  cases x with
  | tuple ho hall => exact ⟨_, _, rfl, ho, hall⟩
theorem well_cons {P : Params} {h : Heap} {us : List Value} {d : WData} {ds : List WData} (x : WellAll P h us (d :: ds)) : ∃ (v : Value) (vs : List Value), us = v :: vs ∧ Well P h v d ∧ WellAll P h vs ds := by
  cases x with
  | cons a b => exact ⟨_, _, rfl, a, b⟩
theorem line_of {n : Nat} (h : n ≤ 1048576) : n ≤ sizeLine := Nat.le_trans h (by decide)
section
variable {P : Params} {h : Heap}
mutual
theorem area_one : ∀ (d : WData) (v : Value), Well P h v d → plW d = true → d.weight ≤ 1048576 → ∃ A : List Addr, OkU A v ∧ ∀ a ∈ A, ArgOb h A a
  | .none, _, x, _, _ => by
    cases x
    exact ⟨[], trivial, fun a m => absurd m (by simp)⟩
  | .bool b, _, x, _, _ => by
    cases x
    exact ⟨[], trivial, fun a m => absurd m (by simp)⟩
  | .int i, _, x, _, _ => by
    cases x
    exact ⟨[], trivial, fun a m => absurd m (by simp)⟩
  | .str s, _, x, _, _ => by
    cases x
    exact ⟨[], trivial, fun a m => absurd m (by simp)⟩
  | .bytes b, _, x, _, _ => by
    cases x
    exact ⟨[], trivial, fun a m => absurd m (by simp)⟩
  | .list ds, _, x, p, z => by
    obtain ⟨a, vs, rfl, ho, hall⟩ := well_list x
    have z2 : WData.weightAll ds ≤ 1048576 := z
    obtain ⟨A, h1, h2⟩ := area_all ds _ hall p fun d hd => Nat.le_trans (weight_mem hd) z2
    have k : ∀ b ∈ A, b ∈ a :: A := fun b hb => List.mem_cons_of_mem _ hb
    refine ⟨a :: A, List.mem_cons_self .., fun b hb => ?_⟩
    rcases List.mem_cons.mp hb with e | m
    · rw [e]
      exact ⟨vs, line_of (by rw [wellAll_len hall]; exact Nat.le_trans (PySem.W.length_le_weightAllW ds) z2), fun u hu => (h1 u hu).mono k, .inl ho⟩
    · exact (h2 b m).mono k
  | .tuple ds, _, x, p, z => by
    obtain ⟨a, vs, rfl, ho, hall⟩ := well_tuple x
    have z2 : WData.weightAll ds ≤ 1048576 := z
    obtain ⟨A, h1, h2⟩ := area_all ds _ hall p fun d hd => Nat.le_trans (weight_mem hd) z2
    have k : ∀ b ∈ A, b ∈ a :: A := fun b hb => List.mem_cons_of_mem _ hb
    refine ⟨a :: A, List.mem_cons_self .., fun b hb => ?_⟩
    rcases List.mem_cons.mp hb with e | m
    · rw [e]
      exact ⟨vs, line_of (by rw [wellAll_len hall]; exact Nat.le_trans (PySem.W.length_le_weightAllW ds) z2), fun u hu => (h1 u hu).mono k, .inr ho⟩
    · exact (h2 b m).mono k
  | .float _, _, _, p, _ => Bool.noConfusion (show false = true from p)
  | .dict _, _, _, p, _ => Bool.noConfusion (show false = true from p)
  | .bytearray _, _, _, p, _ => Bool.noConfusion (show false = true from p)
  | .set _, _, _, p, _ => Bool.noConfusion (show false = true from p)
  | .frozenset _, _, _, p, _ => Bool.noConfusion (show false = true from p)
  | .obj _ _, _, _, p, _ => Bool.noConfusion (show false = true from p)
theorem area_all : ∀ (ds : List WData) (vs : List Value), WellAll P h vs ds → plWs ds = true → (∀ d ∈ ds, d.weight ≤ 1048576) → ∃ A : List Addr, (∀ u ∈ vs, OkU A u) ∧ ∀ a ∈ A, ArgOb h A a
  | [], _, x, _, _ => by
    cases x
    exact ⟨[], fun u m => absurd m (by simp), fun a m => absurd m (by simp)⟩
  | d :: ds, _, x, p, z => by
    obtain ⟨v, vs, rfl, x1, x2⟩ := well_cons x
    have q : plW d = true ∧ plWs ds = true := Bool.and_eq_true_iff.mp p
    obtain ⟨A, a1, a2⟩ := area_one d v x1 q.1 (z d (List.mem_cons_self ..))
    obtain ⟨B, b1, b2⟩ := area_all ds vs x2 q.2 fun e he => z e (List.mem_cons_of_mem _ he)
    have kA : ∀ b ∈ A, b ∈ A ++ B := fun b hb => List.mem_append.mpr (.inl hb)
    have kB : ∀ b ∈ B, b ∈ A ++ B := fun b hb => List.mem_append.mpr (.inr hb)
    refine ⟨A ++ B, fun u hu => ?_, fun b hb => ?_⟩
    · rcases List.mem_cons.mp hu with e | m
      · rw [e]
        exact a1.mono kA
      · exact (b1 u m).mono kB
    · rcases List.mem_append.mp hb with m | m
      · exact (a2 b m).mono kA
      · exact (b2 b m).mono kB
end
end
/-- what is tracked of an argument's object -/
def hoOf (o : Obj) : Option HO := match o.data with
  | .seq vs _ => if (o.cls == Value.type "list") = true then some (.frz o (.lst (vs.toList.map toV))) else some (.frz o (.tup (vs.toList.map toV)))
  | _ => none
def argH (K : PySem.W.Frag) (h : Heap) (A : List Addr) : Hp := fun b => if b ∈ A then (if (K.lookup b).isNone = true then (h.get? b).bind hoOf else none) else none
/-- nothing is tracked but what is known to the object -/
def OnlyF (H : Hp) : Prop := ∀ b, H b = none ∨ ∃ o u, H b = some (.frz o u)
theorem hoOf_lst (vs : List Value) : hoOf { cls := .type "list", data := .seq vs.toArray } = some (.frz { cls := .type "list", data := .seq vs.toArray } (.lst (vs.map toV))) := by
  show (if (Value.type "list" == Value.type "list") = true then some (HO.frz { cls := .type "list", data := .seq vs.toArray } (.lst (vs.toArray.toList.map toV))) else some (HO.frz { cls := .type "list", data := .seq vs.toArray } (.tup (vs.toArray.toList.map toV)))) = _
  rw [if_pos (beq_self_eq_true _)]
theorem hoOf_tup (vs : List Value) : hoOf { cls := .type "tuple", data := .seq vs.toArray } = some (.frz { cls := .type "tuple", data := .seq vs.toArray } (.tup (vs.map toV))) := by
  show (if (Value.type "tuple" == Value.type "list") = true then some (HO.frz { cls := .type "tuple", data := .seq vs.toArray } (.lst (vs.toArray.toList.map toV))) else some (HO.frz { cls := .type "tuple", data := .seq vs.toArray } (.tup (vs.toArray.toList.map toV)))) = _
  rw [if_neg (by decide)]
section
variable {P : Program} {w : World} {K : PySem.W.Frag} {h : Heap} {A : List Addr}
theorem argH_at {b : Addr} {o : Obj} (hb : b ∈ A) (hk : K.lookup b = none) (e : h.get? b = some o) : argH K h A b = hoOf o := by
  unfold argH
  rw [if_pos hb, hk, if_pos (show (none : Option Obj).isNone = true from rfl), e] <;> rfl
theorem of_argH {b : Addr} {u : HO} (q : argH K h A b = some u) : b ∈ A ∧ K.lookup b = none := by
  unfold argH at q
  by_cases hb : b ∈ A
  · rw [if_pos hb] at q
    cases hk : K.lookup b with
    | none => exact ⟨hb, rfl⟩
    | some o =>
      rw [hk, if_neg (by simp)] at q
      cases q
  · rw [if_neg hb] at q
    cases q
/-- what stands tracked -/
theorem argH_is (ar : ∀ a ∈ A, ArgOb h A a) {b : Addr} {u : HO} (q : argH K h A b = some u) : K.lookup b = none ∧ ∃ vs : List Value, vs.length ≤ sizeLine ∧ (∀ u ∈ vs, OkU A u) ∧
    ((h.get? b = some { cls := .type "list", data := .seq vs.toArray } ∧ u = .frz { cls := .type "list", data := .seq vs.toArray } (.lst (vs.map toV))) ∨
     (h.get? b = some { cls := .type "tuple", data := .seq vs.toArray } ∧ u = .frz { cls := .type "tuple", data := .seq vs.toArray } (.tup (vs.map toV)))) := by
  obtain ⟨hb, hk⟩ := of_argH q
  obtain ⟨vs, h1, h2, h3⟩ := ar b hb
  refine ⟨hk, vs, h1, h2, ?_⟩
  rcases h3 with e | e
  · rw [argH_at hb hk e, hoOf_lst] at q
    exact .inl ⟨e, (Option.some.inj q).symm⟩
  · rw [argH_at hb hk e, hoOf_tup] at q
    exact .inr ⟨e, (Option.some.inj q).symm⟩
theorem argH_only (ar : ∀ a ∈ A, ArgOb h A a) : OnlyF (argH K h A) := fun b => by
  cases q : argH K h A b with
  | none => exact .inl rfl
  | some u =>
    obtain ⟨_, vs, _, _, ⟨_, e⟩ | ⟨_, e⟩⟩ := argH_is ar q
    · exact .inr ⟨_, _, by rw [e]⟩
    · exact .inr ⟨_, _, by rw [e]⟩
theorem argH_ok (ar : ∀ a ∈ A, ArgOb h A a) : HOk P w (argH K h A) h := fun b u q => by
  obtain ⟨_, vs, h1, h2, ⟨e, rfl⟩ | ⟨e, rfl⟩⟩ := argH_is ar q
  · exact ⟨e, by rw [List.length_map]; exact h1, vs, _, vals_toV h2, e⟩
  · exact ⟨e, by rw [List.length_map]; exact h1, vs, vals_toV h2, _, e, rfl, _, rfl⟩
theorem seq_inj {c c' : Value} {vs us : List Value} (e : (some { cls := c, data := .seq vs.toArray } : Option Obj) = some { cls := c', data := .seq us.toArray }) : c = c' ∧ vs = us := by
  have e1 := Option.some.inj e
  have e2 : c = c' := congrArg Obj.cls e1
  have e3 : Data.seq vs.toArray = Data.seq us.toArray := congrArg Obj.data e1
  injection e3 with e4
  refine ⟨e2, ?_⟩
  have e5 := congrArg Array.toList e4
  simpa using e5
/-- a list argument -/
theorem argL (KX : K.In h) (ar : ∀ a ∈ A, ArgOb h A a) {a : Addr} {vs : List Value} (ha : a ∈ A) (e : h.get? a = some { cls := .type "list", data := .seq vs.toArray }) : (∀ u ∈ vs, OkU A u) ∧ SqL K (argH K h A) a (vs.map toV) := by
  obtain ⟨us, h1, h2, h3⟩ := ar a ha
  have hu : us = vs := by
    rcases h3 with q | q
    · rw [e] at q
      exact (seq_inj q).2.symm
    · rw [e] at q
      exact absurd (Value.type.inj (seq_inj q).1) (by decide)
  subst hu
  refine ⟨h2, ?_⟩
  cases hk : K.lookup a with
  | none => exact .inl (.inr ⟨_, by rw [argH_at ha hk e, hoOf_lst]⟩)
  | some o =>
    have e2 := KX a o hk
    rw [e] at e2
    obtain rfl := Option.some.inj e2
    exact .inr ⟨_, us.toArray, _, hk, rfl, rfl, rfl, by rw [List.size_toArray]; exact h1, by simpa using vals_toV h2⟩
theorem argT (KX : K.In h) (ar : ∀ a ∈ A, ArgOb h A a) {a : Addr} {vs : List Value} (ha : a ∈ A) (e : h.get? a = some { cls := .type "tuple", data := .seq vs.toArray }) : (∀ u ∈ vs, OkU A u) ∧ SqT K (argH K h A) a (vs.map toV) := by
  obtain ⟨us, h1, h2, h3⟩ := ar a ha
  have hu : us = vs := by
    rcases h3 with q | q
    · rw [e] at q
      exact absurd (Value.type.inj (seq_inj q).1) (by decide)
    · rw [e] at q
      exact (seq_inj q).2.symm
  subst hu
  refine ⟨h2, ?_⟩
  cases hk : K.lookup a with
  | none => exact .inl (.inr ⟨_, by rw [argH_at ha hk e, hoOf_tup]⟩)
  | some o =>
    have e2 := KX a o hk
    rw [e] at e2
    obtain rfl := Option.some.inj e2
    exact .inr ⟨_, us.toArray, _, hk, rfl, rfl, by rw [List.size_toArray]; exact h1, by simpa using vals_toV h2⟩
mutual
theorem dw_one {Pm : Params} (KX : K.In h) (ar : ∀ a ∈ A, ArgOb h A a) : ∀ (d : WData) (v : Value), Well Pm h v d → plW d = true → OkU A v → Dw K (argH K h A) (toV v) d
  | .none, _, x, _, _ => by
    cases x
    exact .non
  | .bool b, _, x, _, _ => by
    cases x
    exact .bl b
  | .int i, _, x, _, _ => by
    cases x
    exact .int i
  | .str s, _, x, _, _ => by
    cases x
    exact .str s
  | .bytes b, _, x, _, _ => by
    cases x
    have z := Dw.byt (K := K) (H := argH K h A) b.toArray
    exact z
  | .list ds, _, x, p, hu => by
    obtain ⟨a, vs, rfl, ho, hall⟩ := well_list x
    obtain ⟨h2, hs⟩ := argL KX ar hu ho
    exact .lst hs (dw_all KX ar ds _ hall p h2)
  | .tuple ds, _, x, p, hu => by
    obtain ⟨a, vs, rfl, ho, hall⟩ := well_tuple x
    obtain ⟨h2, hs⟩ := argT KX ar hu ho
    exact .tup hs (dw_all KX ar ds _ hall p h2)
  | .float _, _, _, p, _ => Bool.noConfusion (show false = true from p)
  | .dict _, _, _, p, _ => Bool.noConfusion (show false = true from p)
  | .bytearray _, _, _, p, _ => Bool.noConfusion (show false = true from p)
  | .set _, _, _, p, _ => Bool.noConfusion (show false = true from p)
  | .frozenset _, _, _, p, _ => Bool.noConfusion (show false = true from p)
  | .obj _ _, _, _, p, _ => Bool.noConfusion (show false = true from p)
theorem dw_all {Pm : Params} (KX : K.In h) (ar : ∀ a ∈ A, ArgOb h A a) : ∀ (ds : List WData) (vs : List Value), WellAll Pm h vs ds → plWs ds = true → (∀ u ∈ vs, OkU A u) → DwAll K (argH K h A) (vs.map toV) ds
  | [], _, x, _, _ => by
    cases x
    exact .nil
  | d :: ds, _, x, p, hu => by
    obtain ⟨v, vs, rfl, x1, x2⟩ := well_cons x
    have q : plW d = true ∧ plWs ds = true := Bool.and_eq_true_iff.mp p
    exact .cons (dw_one KX ar d v x1 q.1 (hu _ (List.mem_cons_self ..))) (dw_all KX ar ds vs x2 q.2 fun u m => hu u (List.mem_cons_of_mem _ m))
end
end
/-! ### the call -/
/-! ### the row -/
theorem layable_weight {ds : List WData} (h : WData.layableAll ds = true) : ∀ d ∈ ds, d.weight ≤ 1048576 := fun d hd =>
  (PySem.W.layableW_iff.mp (List.all_eq_true.mp h d hd)).2.2
theorem encAll_len : ∀ (cs : List Codec) (a : Codec.denoteAll cs), (Codec.encAll cs a).length = cs.length
  | [], _ => rfl
  | c :: cs, a => by
    show (Codec.encAll cs a.2).length + 1 = cs.length + 1
    rw [encAll_len cs a.2]
end L2
end

section
set_option Elab.async false
set_option linter.all false
set_option maxRecDepth 100000
set_option maxHeartbeats 4000000
/-! lambdas: a function object that a def makes, the cells it reads, its call -/
namespace L2
open PySem PySem.Spec PyProof.Rows
/-- an object that's known and stays -/
abbrev fz (o : Obj) : HO := .frz o (.ext fun _ => True)
theorem fz_ok {P : Program} {w : World} {H : Hp} {h : Heap} {a : Addr} {o : Obj} (e : h.get? a = some o) : ObjOk P w H h a (fz o) := ⟨e, trivial, ⟨_, e⟩, fun _ _ _ _ => trivial⟩
/-- at these addresses as in the one, elsewhere as in the other -/
def bck (cs : List Addr) (H H' : Hp) : Hp := fun b => if b ∈ cs then H b else H' b
def hid (cs : List Addr) (H : Hp) : Hp := bck cs (fun _ => none) H
def shw (cs : List (Addr × Obj)) (H : Hp) : Hp := fun b => match cs.lookup b with | some o => some (fz o) | none => H b
theorem bck_in {cs : List Addr} {H H' : Hp} {b : Addr} (h : b ∈ cs) : bck cs H H' b = H b := if_pos h
theorem bck_out {cs : List Addr} {H H' : Hp} {b : Addr} (h : b ∉ cs) : bck cs H H' b = H' b := if_neg h
theorem hid_in {cs : List Addr} {H : Hp} {b : Addr} (h : b ∈ cs) : hid cs H b = none := if_pos h
theorem hid_out {cs : List Addr} {H : Hp} {b : Addr} (h : b ∉ cs) : hid cs H b = H b := if_neg h
theorem lookup_none_of {cs : List (Addr × Obj)} {b : Addr} (h : b ∉ cs.map (·.1)) : cs.lookup b = none := by
  induction cs with
  | nil => rfl
  | cons p r ih =>
    rw [List.lookup_cons]
    have h1 : (b == p.1) = false := by
      rw [beq_eq_false_iff_ne]
      intro z
      exact h (by rw [z]; exact List.mem_cons_self)
    rw [h1]
    exact ih fun z => h (List.mem_cons_of_mem _ z)
theorem lookup_some_of {cs : List (Addr × Obj)} {b : Addr} (h : b ∈ cs.map (·.1)) : ∃ o, cs.lookup b = some o ∧ (b, o) ∈ cs := by
  induction cs with
  | nil => cases h
  | cons p r ih =>
    rw [List.lookup_cons]
    by_cases e : b = p.1
    · subst e
      exact ⟨p.2, by simp, List.mem_cons_self⟩
    · have h1 : (b == p.1) = false := beq_eq_false_iff_ne.mpr e
      rw [h1]
      rcases List.mem_cons.mp h with z | z
      · exact absurd z e
      · obtain ⟨o, h1, h2⟩ := ih z
        exact ⟨o, h1, List.mem_cons_of_mem _ h2⟩
theorem shw_out {cs : List (Addr × Obj)} {H : Hp} {b : Addr} (h : b ∉ cs.map (·.1)) : shw cs H b = H b := by
  unfold shw
  rw [lookup_none_of h]
theorem shw_in {cs : List (Addr × Obj)} {H : Hp} {b : Addr} {o : Obj} (h : cs.lookup b = some o) : shw cs H b = some (fz o) := by
  unfold shw
  rw [h]
theorem not_tup_fz {o : Obj} {xs : List V} : some (fz o) ≠ some (HO.tup xs) := fun z => by cases z
section
variable {P : Program} {w : World} {fs : List Addr} {H H2 : Hp} {h h' : Heap} {cs : List (Addr × Obj)}
/-- ahead of a call: the cells are shown -/
theorem HOk.shown (ok : HOk P w H h) (hc : ∀ p ∈ cs, h.get? p.1 = some p.2 ∧ H p.1 = none) : HOk P w (shw cs H) h := fun a o e => by
  by_cases ha : a ∈ cs.map (·.1)
  · obtain ⟨ob, h1, h2⟩ := lookup_some_of ha
    rw [shw_in h1] at e
    cases e
    exact fz_ok (hc _ h2).1
  · rw [shw_out ha] at e
    have nn : ∀ b u, H b = some u → b ∉ cs.map (·.1) := fun b u q z => by
      obtain ⟨ob, _, h2⟩ := lookup_some_of z
      rw [(hc _ h2).2] at q
      cases q
    exact (ok a o e).stay (fun b u _ q => q) (fun b q => by rw [shw_out (nn _ _ q)]; exact q) fun b xs q => by rw [shw_out (nn _ _ q)]; exact q
/-- behind it they're out of sight again -/
theorem Un.shown (u : Un fs [] (shw cs H) H2 h h') (ok2 : HOk P w H2 h') (hc : ∀ p ∈ cs, h.get? p.1 = some p.2 ∧ H p.1 = none) : Un fs [] H (hid (cs.map (·.1)) H2) h h' ∧ HOk P w (hid (cs.map (·.1)) H2) h' := by
  have nn : ∀ b u, H b = some u → b ∉ cs.map (·.1) := fun b u q z => by
    obtain ⟨ob, _, h2⟩ := lookup_some_of z
    rw [(hc _ h2).2] at q
    cases q
  have atc : ∀ b, b ∈ cs.map (·.1) → ∀ o, h.get? b = some o → h'.get? b = some o ∧ H2 b = some (fz o) := fun b hb o q => by
    obtain ⟨ob, h1, h2⟩ := lookup_some_of hb
    have e : ob = o := Option.some.inj ((hc _ h2).1.symm.trans q)
    subst e
    have e2 := u.frzs b ob _ (shw_in h1)
    exact ⟨(ok2 b _ e2).1, e2⟩
  refine ⟨⟨fun b o q n hf hx => ?_, fun b o q n hf hx => ?_, fun b o q n hx => ?_, u.there, fun b xs q => ?_, fun b ob x q => ?_, fun b ps q => ?_⟩, fun a o e => ?_⟩
  · by_cases hb : b ∈ cs.map (·.1)
    · exact (atc b hb o q).1
    · exact u.keep b o q (by rw [shw_out hb]; exact n) hf hx
  · by_cases hb : b ∈ cs.map (·.1)
    · exact ⟨o.slots, (atc b hb o q).1⟩
    · exact u.slot b o q (by rw [shw_out hb]; exact n) hf hx
  · by_cases hb : b ∈ cs.map (·.1)
    · exact hid_in hb
    · rw [hid_out hb]
      exact u.free b o q (by rw [shw_out hb]; exact n) hx
  · have hb := nn _ _ q
    rw [hid_out hb]
    exact u.tups b xs (by rw [shw_out hb]; exact q)
  · have hb := nn _ _ q
    rw [hid_out hb]
    exact u.frzs b ob x (by rw [shw_out hb]; exact q)
  · have hb := nn _ _ q
    rw [hid_out hb]
    exact u.tbls b ps (by rw [shw_out hb]; exact q)
  · by_cases hb : a ∈ cs.map (·.1)
    · rw [hid_in hb] at e
      cases e
    · rw [hid_out hb] at e
      have nf : ∀ b v, H2 b = some v → (∀ ob, v ≠ fz ob) → b ∉ cs.map (·.1) := fun b v q1 q2 z => by
        obtain ⟨ob, h1, _⟩ := lookup_some_of z
        have e2 := u.frzs b ob _ (shw_in h1)
        rw [q1] at e2
        exact q2 ob (Option.some.inj e2)
      exact (ok2 a o e).stay (fun b u _ q => q) (fun b q => by rw [hid_out (nf _ _ q fun ob z => by cases z)]; exact q) fun b xs q => by rw [hid_out (nf _ _ q fun ob z => by cases z)]; exact q
end
/-! ### a call with the cells of some names shown -/
/-- the cells of these names (their slots), as they stand -/
def CellsOf (cells : List (Str × Addr)) (σ : L2.St) (ns : List (Str × Nat)) (cs : List (Addr × Obj)) : Prop :=
  Paired (fun (n : Str × Nat) (p : Addr × Obj) => cells.lookup n.1 = some p.1 ∧ ∃ u v, p.2.data = .cell (some u) ∧ σ[n.2]? = some (some v) ∧ RelV v u) ns cs
section
variable {X : Cx} {CX : CXT} {k : Nat} {f : Addr} {fd : FuncData} {ps : List Str} {sp : Sp} {E : XK} {x : Str} {p pos : Pos} {e : Expr} {es : List Expr} {t : TA}
theorem cells_of {pins : List (Addr × Obj)} {σ : L2.St} {H : Hp} {s : Shared} (I : Inv X pins σ H s) : ∀ (ns : List (Str × Nat)), (∀ n ∈ ns, X.N[n.2]? = some n.1 ∧ X.env.scope.names.lookup n.1 = some .cell ∧ X.fn n.1 = true ∧ ∃ v, σ[n.2]? = some (some v)) →
    ∃ cs : List (Addr × Obj), CellsOf X.env.cells σ ns cs ∧ ∀ q ∈ cs, (s.heap.get? q.1 = some q.2 ∧ H q.1 = none) ∧ X.s_0.heap.objs.size ≤ q.1 ∧ q.1 ≠ X.env.locals
  | [], _ => ⟨[], .nil, fun q hq => nomatch hq⟩
  | n :: ns, h => by
    obtain ⟨cs, h1, h2⟩ := cells_of I ns fun m hm => h m (List.mem_cons_of_mem _ hm)
    obtain ⟨a1, a2, af, v, a3⟩ := h n List.mem_cons_self
    obtain ⟨m, _, hl⟩ := I.loc
    obtain ⟨u, r, l⟩ := hl n.2 n.1 v a1 a3 (.inr (.inl a2))
    rcases l with ⟨hk, _⟩ | ⟨_, c, hc, o, ho, hd⟩
    · have hk : X.env.scope.names.lookup n.1 = some .local := hk
      rw [a2] at hk
      cases hk
    · refine ⟨(c, o) :: cs, .cons ⟨hc, u, v, hd, a3, r⟩ h1, fun q hq => ?_⟩
      rcases List.mem_cons.mp hq with rfl | hq
      · exact ⟨⟨ho, I.freeC _ _ hc⟩, I.ok.cab _ _ af hc, I.cne _ _ hc⟩
      · exact h2 q hq
theorem fs_lt (ok : X.Ok) {b : Addr} (hb : b ∈ X.fs) : b < X.s_0.heap.objs.size := by
  obtain ⟨env, he, hf⟩ := List.mem_filterMap.mp hb
  obtain ⟨L, o, h1, h2⟩ := funFrames_in ok.funs env he
  rw [hf] at h1
  cases h1
  exact Heap.lt_size h2
def tCallC (sp : Sp) (E : XK) (cells : List (Str × Addr)) (ns : List (Str × Nat)) (t : TA) : TE := fun σ H Q => t σ H fun vs H1 => (∀ n ∈ ns, ∃ v, σ[n.2]? = some (some v)) ∧
  ∀ cs : List (Addr × Obj), CellsOf cells σ ns cs → (∀ q ∈ cs, H1 q.1 = none) → sp vs (shw cs H1) (fun v H' => Q v (hid (cs.map (·.1)) H')) E
theorem pe_callC (ns : List (Str × Nat)) (F : FnOk X.prog X.w X.K X.mg X.base CX0 k f fd ps sp) (hr : Room k X.A) (hg : Gl X x) (hm : X.mg x = some (.ref f)) (hk : PySem.W.keepIn X.K (.ref f) = true) (hb : Binds X.K fd ps [])
    (hn : ∀ n ∈ ns, X.N[n.2]? = some n.1 ∧ X.env.scope.names.lookup n.1 = some .cell ∧ X.fn n.1 = true)
    (ha : PA X (e :: es) t) (hdb : (x == ("__debug__" : Str)) = false := by decide) (he : starEach (e :: es) X.env = (false, eval e X.env) :: starEach es X.env := by rfl) (hpl : (backTo pos (starEach es X.env)).any (·.1) = false := by rfl) :
    PE X (.Call (.Name x p) (e :: es) [] pos) (tCallC sp E0 X.env.cells ns t) := by
  intro pins s σ H Q I h
  refine wpAny_Call_Name_kw (ld_glob I hg hm ?_ hdb)
  refine PySem.W.callWith_K (h₀ := X.base) I.ok.mod.kin hk (thn (ha pos pins s σ H _ I h) fun us s1 ⟨vs, H1, I1, r, hv, q⟩ => ⟨I1.kIn, ?_⟩) he hpl
  obtain ⟨cs, c1, c2⟩ := cells_of I1 ns fun n m => ⟨(hn n m).1, (hn n m).2.1, (hn n m).2.2, hv n m⟩
  have c3 : ∀ p ∈ cs, s1.heap.get? p.1 = some p.2 ∧ H1 p.1 = none := fun p m => (c2 p m).1
  have q := q cs c1 fun z hz => (c2 z hz).1.2
  have hl : (us ++ []).length = ps.length := by rw [List.append_nil, ← r.length]; exact F.len _ _ _ _ q
  have e0 := I1.env0
  have e1 : Env0 X.prog X.w X.K X.mg X.base X.A X.stack s1 (shw cs H1) := by
    refine ⟨e0.frames, e0.mod, fun b o e => ?_, e0.bsz, e0.funs, fun b hb => ?_, e0.hok.shown c3, e0.bare⟩
    · obtain ⟨z1, z2⟩ := e0.bs b o e
      refine ⟨z1, ?_⟩
      rw [shw_out]
      · exact z2
      · intro z
        obtain ⟨ob, _, h2⟩ := lookup_some_of z
        have := (c2 _ h2).2.1
        have h3 := Heap.lt_size e
        have h4 := I1.ok.bsz
        exact absurd (Nat.lt_of_lt_of_le h3 (Nat.le_trans h4 this)) (Nat.lt_irrefl _)
    · rw [shw_out]
      · exact e0.frf b hb
      · intro z
        obtain ⟨ob, _, h2⟩ := lookup_some_of z
        have h3 := (c2 _ h2).2
        rcases List.mem_cons.mp (I1.stkSub b hb) with h4 | h4
        · exact h3.2 h4
        · have := fs_lt I1.ok h4
          exact absurd (Nat.lt_of_lt_of_le this h3.1) (Nat.lt_irrefl _)
  refine wpAny_call (codeAny_mono (F.run X.A X.stack s1 (shw cs H1) ⟨us, []⟩ us vs _ E0 hr e1 (by simpa using hb s1 us I1.kIn hl) r q) fun r s' hq => ?_)
  cases r with
  | error e => exact False.elim hq
  | ok fl =>
    cases fl with
    | ret u =>
      obtain ⟨v, H', os, bare, un, hok, rv, qq⟩ := hq
      obtain ⟨un', hok'⟩ := Un.shown un hok c3
      exact I1.after ⟨v, _, os, bare, un', hok', rv, qq⟩
    | next => exact False.elim hq
    | brk => exact False.elim hq
    | cont => exact False.elim hq
end

/-! ### into a lambda's body and back -/
section
variable {P : Program} {w : World} {fs cs : List Addr} {H H2 : Hp} {h h' : Heap}
theorem HOk.hidden (ok : HOk P w H h) (hc : ∀ c ∈ cs, ∃ o, H c = some (fz o)) : HOk P w (hid cs H) h := fun a o e => by
  by_cases ha : a ∈ cs
  · rw [hid_in ha] at e
    cases e
  · rw [hid_out ha] at e
    have nn : ∀ b u, H b = some u → (∀ o, u ≠ fz o) → b ∉ cs := fun b u q n z => by
      obtain ⟨o, e⟩ := hc b z
      rw [q] at e
      exact n o (Option.some.inj e)
    exact (ok a o e).stay (fun b u _ q => q) (fun b q => by rw [hid_out (nn _ _ q fun o z => by cases z)]; exact q) fun b xs q => by rw [hid_out (nn _ _ q fun o z => by cases z)]; exact q
theorem Un.back (u : Un fs [] (hid cs H) H2 h h') (ok : HOk P w H h) (ok2 : HOk P w H2 h') (hc : ∀ c ∈ cs, ∃ o, H c = some (fz o)) (hf : ∀ c ∈ cs, c ∉ fs) (h2 : ∀ c ∈ cs, H2 c = none) : Un fs [] H (bck cs H H2) h h' ∧ HOk P w (bck cs H H2) h' := by
  have kc : ∀ c ∈ cs, ∀ o, H c = some (fz o) → h'.get? c = some o := fun c m o e => u.keep c o (ok c _ e).1 (hid_in m) (hf c m) (by simp)
  refine ⟨⟨fun b o q n hf' hx => ?_, fun b o q n hf' hx => ?_, fun b o q n hx => ?_, u.there, fun b xs q => ?_, fun b ob x q => ?_, fun b ps q => ?_⟩, fun a o e => ?_⟩
  · by_cases hb : b ∈ cs
    · obtain ⟨o', e⟩ := hc b hb
      rw [n] at e
      cases e
    · exact u.keep b o q (by rw [hid_out hb]; exact n) hf' hx
  · by_cases hb : b ∈ cs
    · obtain ⟨o', e⟩ := hc b hb
      rw [n] at e
      cases e
    · exact u.slot b o q (by rw [hid_out hb]; exact n) hf' hx
  · by_cases hb : b ∈ cs
    · rw [bck_in hb]; exact n
    · rw [bck_out hb]
      exact u.free b o q (by rw [hid_out hb]; exact n) hx
  · by_cases hb : b ∈ cs
    · rw [bck_in hb]; exact q
    · rw [bck_out hb]
      exact u.tups b xs (by rw [hid_out hb]; exact q)
  · by_cases hb : b ∈ cs
    · rw [bck_in hb]; exact q
    · rw [bck_out hb]
      exact u.frzs b ob x (by rw [hid_out hb]; exact q)
  · by_cases hb : b ∈ cs
    · rw [bck_in hb]; exact ⟨#[], by rw [q]; simp⟩
    · rw [bck_out hb]
      exact u.tbls b ps (by rw [hid_out hb]; exact q)
  · by_cases hb : a ∈ cs
    · rw [bck_in hb] at e
      obtain ⟨ob, e'⟩ := hc a hb
      rw [e] at e'
      obtain rfl := Option.some.inj e'
      exact fz_ok (kc a hb ob e)
    · rw [bck_out hb] at e
      have nn : ∀ b v, H2 b = some v → b ∉ cs := fun b v q z => by
        rw [h2 b z] at q
        cases q
      exact (ok2 a o e).stay (fun b u _ q => q) (fun b q => by rw [bck_out (nn _ _ q)]; exact q) fun b xs q => by rw [bck_out (nn _ _ q)]; exact q
end
/-- the code object of a lambda, by its value -/
def CodeAt (H : Hp) (cdv : Value) (qual : Str) : Prop := ∃ c oc vs t, cdv = .ref c ∧ H c = some (fz oc) ∧ oc.data = .fields vs ∧ vs[1]? = some (.str qual t)
/-- parameters, names from around -/
structure LamScope (ps fv : List Str) (sc : Scope) : Prop where
  kind : sc.kind = .function
  co : sc.isCoroutine = false
  gen : sc.isGenerator = false
  nd : (ps ++ fv).Nodup
  par : ∀ x ∈ ps, sc.names.lookup x = some .local
  fre : ∀ x ∈ fv, sc.names.lookup x = some .free
  nocell : ∀ y ∈ sc.names, y.2 ≠ .cell
  only : ∀ y ∈ sc.names, y.2 = .free → y.1 ∈ fv
def cxLam (P : Program) (w : World) (K : PySem.W.Frag) (mg : Str → Option Value) (base : Heap) (N : List Str) (qual : Str) (scope : Scope) (f : Addr) (cd : Value) (cl : List (Str × Addr)) (A : Around) (outer : List Env) (s : Shared) (H : Hp) : Cx where
  prog := P
  w := w
  K := K
  mg := mg
  base := base
  A := A.deeper (PySem.W.envX qual scope s.heap.objs.size f cd cl)
  N := N
  s_0 := s
  H_0 := H
  env := PySem.W.envX qual scope s.heap.objs.size f cd cl
  outer := outer
  stack := PySem.W.envX qual scope s.heap.objs.size f cd cl :: outer
  ex := []
  calm := true
  fn := fun _ => false
  pn := []
  xe := fun _ _ => False
theorem zip_lookup : ∀ {ps : List Str} {us : List Value} {i : Nat} {x : Str} {u : Value}, ps.Nodup → ps[i]? = some x → us[i]? = some u → (ps.zip us).lookup x = some u
  | [], _, _, _, _, _, h, _ => by simp at h
  | _ :: _, [], _, _, _, _, _, h => by simp at h
  | p :: ps, w :: us, 0, x, u, _, h1, h2 => by
    simp at h1 h2
    subst h1 h2
    show List.lookup p ((p, w) :: ps.zip us) = some w
    rw [List.lookup_cons]
    simp
  | p :: ps, w :: us, i + 1, x, u, nd, h1, h2 => by
    have hn := List.nodup_cons.mp nd
    have h1 : ps[i]? = some x := by simpa using h1
    show List.lookup x ((p, w) :: ps.zip us) = some u
    rw [List.lookup_cons]
    have : (x == p) = false := by
      rw [beq_eq_false_iff_ne]
      intro z
      exact hn.1 (by rw [← z]; exact List.mem_of_getElem? h1)
    rw [this]
    exact zip_lookup hn.2 h1 (by simpa using h2)
theorem zip_rev_lookup {ps : List Str} {us : List Value} {i : Nat} {x : Str} {u : Value} (nd : ps.Nodup) (hl : ps.length ≤ us.length) (h1 : ps[i]? = some x) (h2 : us[i]? = some u) : (ps.zip us).reverse.lookup x = some u := by
  rw [lookup_reverse_of_nodup _ (by rw [List.map_fst_zip hl]; exact nd)]
  exact zip_lookup nd h1 h2
/-- what a lambda's object, its code and its cells are, and the values that it reads from around -/
structure LamAt (H : Hp) (f : Addr) (o : Obj) (cdv : Value) (qual : Str) (cl : List (Str × Addr)) (fv : List Str) (ws : List V) : Prop where
  obj : H f = some (fz o)
  code : CodeAt H cdv qual
  len : ws.length = fv.length
  cell : ∀ (i : Nat) (x : Str), fv[i]? = some x → ∃ c o u w, cl.lookup x = some c ∧ H c = some (fz o) ∧ o.data = .cell (some u) ∧ ws[i]? = some w ∧ RelV w u
/-- the closure's names are the free ones, each with a cell of its own -/
structure CloOk (cl : List (Str × Addr)) (fv : List Str) : Prop where
  only : ∀ x c, cl.lookup x = some c → x ∈ fv
  inj : ∀ x y c, cl.lookup x = some c → cl.lookup y = some c → x = y
  mem : ∀ c ∈ cl.map (·.2), ∃ x, cl.lookup x = some c
theorem fn_lam {P : Program} {w : World} {K : PySem.W.Frag} {mg : Str → Option Value} {base : Heap} {k : Nat} {f : Addr} {name qual : Str} {params : Arguments} {body : Expr} {scope : Scope} {cl : List (Str × Addr)} {pm cdv ct : Value} {ps fv : List Str} {sp : Sp}
    (S : LamScope ps fv scope) (C : CloOk cl fv) (len : ∀ vs H Q E, sp vs H Q E → vs.length = ps.length)
    (hbody : ∀ (A : Around) (outer : List Env) (s : Shared) (H : Hp) (vs : List V) (Q : VK) (E : XK), Room k (A.deeper (PySem.W.envX qual scope s.heap.objs.size f cdv cl)) → sp vs H Q E →
      ∃ ws : List V, LamAt H f { cls := .type "function", data := .func (PySem.W.kla_fn name qual params body scope cl pm cdv ct) } cdv qual cl fv ws ∧
      ∃ t, PE (cxLam P w K mg base (ps ++ fv) qual scope f cdv cl A outer s (hid (cl.map (·.2)) H)) body t ∧ t ((vs ++ ws).map some) (hid (cl.map (·.2)) H) (fun v H' => (∀ c ∈ cl.map (·.2), H' c = none) → Q v (bck (cl.map (·.2)) H H'))) :
    FnOk P w K mg base CX0 (k + 1) f (PySem.W.kla_fn name qual params body scope cl pm cdv ct) ps sp := by
  refine ⟨len, fun A outer s H args us vs Q E hr e0 hb r hsp => ?_⟩
  have hl := len _ _ _ _ hsp
  have hul : us.length = ps.length := by rw [← r.length]; exact hl
  obtain ⟨ws, L, t, ht, hq⟩ := hbody A outer s H vs Q E (hr.deeper _) hsp
  obtain ⟨c, oc, cvs, tq, rfl, hc, hcd, hv⟩ := L.code
  have lim : s.heap.NoLimit := e0.mod.nolimit.keeps fun b o e => (e0.bs b o e).1
  have hcs : ∀ c ∈ cl.map (·.2), ∃ o u, H c = some (fz o) ∧ o.data = .cell (some u) := fun c m => by
    obtain ⟨x, hx⟩ := C.mem c m
    obtain ⟨i, hi⟩ := List.getElem?_of_mem (C.only x c hx)
    obtain ⟨c', o, u, w, h1, h2, h3, _⟩ := L.cell i x hi
    rw [hx] at h1
    cases h1
    exact ⟨o, u, h2, h3⟩
  have hcs' : ∀ c ∈ cl.map (·.2), ∃ o, H c = some (fz o) := fun c m => let ⟨o, _, h, _⟩ := hcs c m; ⟨o, h⟩
  have hcf : ∀ c ∈ cl.map (·.2), c ∉ frs outer := fun c m z => by
    obtain ⟨o, h⟩ := hcs' c m
    rw [e0.frf c z] at h
    cases h
  refine PySem.W.kla_callFunE hr.depth (e0.hok f _ L.obj).1 rfl S.co S.gen rfl ⟨c, oc, cvs, tq, rfl, (e0.hok c _ hc).1, hcd, hv⟩ (hb _ _ _ _ ?_)
  refine wpAny_newFunctionEnv S.nocell (fun y hy => S.par _ (List.of_mem_zip hy).1) (fun h1 hns hsb => ⟨lim.fresh _ hsb, ?_⟩) S.kind
  show codeAny _ _ (.expr body (PySem.W.envX qual scope s.heap.objs.size f (.ref c) cl)) _ _
  have hk1 : ∀ b o, s.heap.get? b = some o → h1.get? b = some o := fun b o e => hsb.extBut b o (Nat.ne_of_lt (Heap.lt_size e)) (Heap.get?_push_of_some _ e)
  have ndp : ps.Nodup := (List.nodup_append.mp S.nd).1
  have hokh : HOk P w (hid (cl.map (·.2)) H) s.heap := e0.hok.hidden hcs'
  have hidn : ∀ b, H b = none → hid (cl.map (·.2)) H b = none := fun b e => by
    by_cases m : b ∈ cl.map (·.2)
    · exact hid_in m
    · rw [hid_out m]; exact e
  have noA : ∀ b : Addr, b ∉ (cxLam P w K mg base (ps ++ fv) qual scope f (.ref c) cl A outer s (hid (cl.map (·.2)) H)).ex := fun b z => absurd (show b ∈ ([] : List Addr) from z) (by simp)
  have cmem : ∀ x c', cl.lookup x = some c' → c' ∈ cl.map (·.2) := fun x c' e => List.mem_map_of_mem (f := (·.2)) (PySem.mem_of_lookup e)
  have I : Inv (cxLam P w K mg base (ps ++ fv) qual scope f (.ref c) cl A outer s (hid (cl.map (·.2)) H)) [] ((vs ++ ws).map some) (hid (cl.map (·.2)) H) { s with heap := h1, toks := s.toks + (ps.zip us).length } := by
    refine ⟨⟨e0.mod, S.kind, rfl, rfl, Nat.le_refl _, C.inj, fun y hy => ?_, fun y c' h => ?_, fun _ => hr.hd, Around.frames_deeper e0.frames, .inr ⟨rfl, rfl⟩, fun b z => absurd z (noA b), fun b o e => ⟨(e0.bs b o e).1, hidn b (e0.bs b o e).2⟩, e0.bsz, fun b _ _ => noA b, fun b z => absurd z (noA b), e0.funs, fun b hb => hidn b (e0.frf b hb)⟩,
      rfl, e0.bare, Un.kept hk1, ⟨_, hns, fun i y v g1 g2 g3 => ?_⟩, fun y c' h => ?_, hokh.fresh (Nat.le_refl _), fun y c' h => hid_in (cmem y c' h), fun p hp => absurd (show p ∈ ([] : List (Addr × Obj)) from hp) (by simp), hokh.kept hk1, ?_⟩
    · have hy : scope.names.lookup y = some .cell ∨ scope.names.lookup y = some .free := hy
      rcases hy with hy | hy
      · exact absurd rfl (S.nocell _ (PySem.mem_of_lookup hy))
      · obtain ⟨i, hi⟩ := List.getElem?_of_mem (S.only _ (PySem.mem_of_lookup hy) rfl)
        obtain ⟨c', _, _, _, h1, _⟩ := L.cell i y hi
        exact ⟨c', h1⟩
    · intro z
      exact absurd (show false = true from h) (by decide)
    · have g1 : (ps ++ fv)[i]? = some y := g1
      by_cases hi : i < ps.length
      · rw [List.getElem?_append_left hi] at g1
        rw [List.getElem?_map, List.getElem?_append_left (by omega)] at g2
        have ha : vs[i]? = some v := by
          cases e : vs[i]? with
          | none => rw [e] at g2; cases g2
          | some a => rw [e] at g2; cases g2; rfl
        obtain ⟨u, hu, rv⟩ := r.get ha
        exact ⟨u, rv, .inl ⟨S.par y (List.mem_of_getElem? g1), zip_rev_lookup ndp (by omega) g1 hu⟩⟩
      · rw [List.getElem?_append_right (by omega)] at g1
        rw [List.getElem?_map, List.getElem?_append_right (by omega)] at g2
        obtain ⟨c', o, u, wv, l1, l2, l3, l4, l5⟩ := L.cell _ y g1
        rw [hl, l4] at g2
        have : wv = v := by
          have := Option.some.inj g2
          exact Option.some.inj this
        subst this
        exact ⟨u, l5, .inr ⟨.inr (S.fre y (List.mem_of_getElem? g1)), c', l1, o, hk1 _ _ (e0.hok c' _ l2).1, l3⟩⟩
    · obtain ⟨o, u, h2, h3⟩ := hcs c' (cmem y c' h)
      exact ⟨some u, o, hk1 _ _ (e0.hok c' _ h2).1, h3⟩
    · show ((vs ++ ws).map some).length = (ps ++ fv).length
      rw [List.length_map, List.length_append, List.length_append, hl, L.len]
  refine PySem.W.kla_codeExpr (wpAny_mono (ht [] _ _ _ _ I hq) (fun u s' hs => ?_) fun _ _ z => z.elim)
  obtain ⟨v, H', J, rv, q⟩ := hs
  have h2 : ∀ c ∈ cl.map (·.2), H' c = none := fun c m => by
    obtain ⟨x, hx⟩ := C.mem c m
    exact J.freeC x c hx
  obtain ⟨un, hok⟩ := Un.back (P := P) (w := w) J.base e0.hok J.hok hcs' hcf h2
  exact ⟨v, _, J.os, J.bare, un, hok, rv, q h2⟩
end L2

end
section
set_option Elab.async false
set_option linter.all false
set_option maxRecDepth 100000
set_option maxHeartbeats 4000000
/-! lambdas: where they're made; the tables of code objects -/
namespace L2
open PySem PySem.Spec PyProof.Rows
/-- a def's table, which holds the code of its one lambda once that was made -/
structure Tab where
  P : Addr
  qual : Str
  pos : Pos
def TabOk (H : Hp) (t : Tab) : Prop := H t.P = some (.tbl #[]) ∨ ∃ c oc vs tk, H t.P = some (.tbl #[rawInt t.pos.line, rawInt t.pos.col, .ref c]) ∧ H c = some (fz oc) ∧ oc.data = .fields vs ∧ vs[1]? = some (.str t.qual tk)
def TB (T : List Tab) (H : Hp) : Prop := ∀ t ∈ T, TabOk H t
theorem TabOk.at {H : Hp} {t : Tab} (h : TabOk H t) : ∃ ps, H t.P = some (.tbl ps) := by
  rcases h with h | ⟨_, _, _, _, h, _⟩
  · exact ⟨_, h⟩
  · exact ⟨_, h⟩
/-- all but the tables stays as it is; they stay tables -/
structure Gr (T : List Tab) (H H' : Hp) : Prop where
  keep : ∀ b o, H b = some o → (∀ ps, o ≠ .tbl ps) → H' b = some o
  tl : ∀ b ps, H b = some (.tbl ps) → ∃ ps', H' b = some (.tbl ps')
  tb : TB T H → TB T H'
section
variable {T : List Tab} {H H1 H2 H3 : Hp}
theorem Gr.refl (H : Hp) : Gr T H H := ⟨fun _ _ h _ => h, fun _ ps h => ⟨ps, h⟩, id⟩
theorem Gr.trans (a : Gr T H1 H2) (b : Gr T H2 H3) : Gr T H1 H3 := ⟨fun c o h n => b.keep c o (a.keep c o h n) n, fun c ps h => let ⟨ps1, h1⟩ := a.tl c ps h; b.tl c ps1 h1, fun h => b.tb (a.tb h)⟩
theorem TabOk.same {t : Tab} (h : TabOk H1 t) (e : Same H1 H2) : TabOk H2 t := by
  rcases h with h | ⟨c, oc, vs, tk, h, h2, h3⟩
  · exact .inl (e _ _ h)
  · exact .inr ⟨c, oc, vs, tk, e _ _ h, e _ _ h2, h3⟩
theorem TB.same (h : TB T H1) (e : Same H1 H2) : TB T H2 := fun t m => (h t m).same e
theorem Gr.of (e : Same H1 H2) : Gr T H1 H2 := ⟨fun b o h _ => e b o h, fun b ps h => ⟨ps, e b _ h⟩, fun h => h.same e⟩
theorem Gr.seq {K : PySem.W.Frag} {a : Addr} {xs : List V} (e : Gr T H1 H2) (h : SqL K H1 a xs) : SqL K H2 a xs := by
  rcases h with (h | ⟨o, h⟩) | h
  · exact .inl (.inl (e.keep _ _ h fun ps z => by cases z))
  · exact .inl (.inr ⟨o, e.keep _ _ h fun ps z => by cases z⟩)
  · exact .inr h
theorem Gr.seqT {K : PySem.W.Frag} {a : Addr} {xs : List V} (e : Gr T H1 H2) (h : SqT K H1 a xs) : SqT K H2 a xs := by
  rcases h with (h | ⟨o, h⟩) | h
  · exact .inl (.inl (e.keep _ _ h fun ps z => by cases z))
  · exact .inl (.inr ⟨o, e.keep _ _ h fun ps z => by cases z⟩)
  · exact .inr h
theorem Gr.lst {a : Addr} {xs : List V} (e : Gr T H1 H2) (h : H1 a = some (.lst xs)) : H2 a = some (.lst xs) := e.keep _ _ h fun ps z => by cases z
theorem Gr.tup {a : Addr} {xs : List V} (e : Gr T H1 H2) (h : H1 a = some (.tup xs)) : H2 a = some (.tup xs) := e.keep _ _ h fun ps z => by cases z
theorem Gr.fz {a : Addr} {o : Obj} (e : Gr T H1 H2) (h : H1 a = some (fz o)) : H2 a = some (fz o) := e.keep _ _ h fun ps z => by cases z
/-- what's free behind was free ahead -/
theorem Gr.free (e : Gr T H1 H2) {b : Addr} (h : H2 b = none) : H1 b = none := by
  cases q : H1 b with
  | none => rfl
  | some o =>
    by_cases z : ∃ ps, o = .tbl ps
    · obtain ⟨ps, rfl⟩ := z
      obtain ⟨ps', h'⟩ := e.tl b ps q
      rw [h] at h'
      cases h'
    · rw [e.keep b o q fun ps y => z ⟨ps, y⟩] at h
      cases h
/-- a list that was none of the heap ahead is written -/
theorem TB.put {D : Addr} {ys : List V} (h : TB T H) (hD : H D = none ∨ ∃ xs, H D = some (.lst xs)) : TB T (upd H D (.lst ys)) := fun t m => by
  have nt : ∀ b o, H b = some o → (∀ xs, o ≠ .lst xs) → upd H D (.lst ys) b = some o := fun b o q n => by
    rw [upd_ne]
    · exact q
    · rintro rfl
      rcases hD with z | ⟨xs, z⟩
      · rw [z] at q; cases q
      · rw [z] at q; exact n xs (Option.some.inj q).symm
  rcases h t m with h | ⟨c, oc, vs, tk, h, h2, h3⟩
  · exact .inl (nt _ _ h fun xs z => by cases z)
  · exact .inr ⟨c, oc, vs, tk, nt _ _ h fun xs z => (by cases z), nt _ _ h2 fun xs z => (by cases z), h3⟩
theorem Gr.put {D : Addr} {ys : List V} (g : Gr T H H1) (hD : H D = none) (h1 : H1 D = none ∨ ∃ xs, H1 D = some (.lst xs)) : Gr T H (upd H1 D (.lst ys)) :=
  ⟨fun b o q n => by rw [upd_ne (ne_of_none q hD)]; exact g.keep b o q n, fun b ps q => by rw [upd_ne (ne_of_none q hD)]; exact g.tl b ps q, fun h => (g.tb h).put h1⟩
theorem Gr.new {D : Addr} {o : HO} (g : Gr T H H1) (h1 : H1 D = none) : Gr T H (upd H1 D o) := g.trans (.of fun b u e => by rw [upd_ne (ne_of_none e h1)]; exact e)
/-! ### the cells shown and hidden -/
theorem TabOk.mono' {t : Tab} (h : TabOk H1 t) (e : ∀ b o, H1 b = some o → ((∃ ps, o = .tbl ps) ∨ ∃ oc vs, o = L2.fz oc ∧ oc.data = .fields vs) → H2 b = some o) : TabOk H2 t := by
  rcases h with h | ⟨c, oc, vs, tk, h, h2, h3, h4⟩
  · exact .inl (e _ _ h (.inl ⟨_, rfl⟩))
  · exact .inr ⟨c, oc, vs, tk, e _ _ h (.inl ⟨_, rfl⟩), e _ _ h2 (.inr ⟨oc, vs, rfl, h3⟩), h3, h4⟩
theorem Gr.shown {cs : List (Addr × Obj)} (hc : ∀ q ∈ cs, H q.1 = none) (hd : ∀ q ∈ cs, ∃ v, q.2.data = .cell v) (g : Gr T (shw cs H) H1) : Gr T H (hid (cs.map (·.1)) H1) := by
  have nn : ∀ b u, H b = some u → b ∉ cs.map (·.1) := fun b u q z => by
    obtain ⟨ob, _, h2⟩ := lookup_some_of z
    rw [hc _ h2] at q
    cases q
  refine ⟨fun b o q n => ?_, fun b ps q => ?_, fun h t m => ?_⟩
  · have hb := nn _ _ q
    rw [hid_out hb]
    exact g.keep b o (by rw [shw_out hb]; exact q) n
  · have hb := nn _ _ q
    rw [hid_out hb]
    exact g.tl b ps (by rw [shw_out hb]; exact q)
  · have h1 : TB T (shw cs H) := fun t m => (h t m).mono' fun b o q _ => by rw [shw_out (nn _ _ q)]; exact q
    refine (g.tb h1 t m).mono' fun b o q z => ?_
    rw [hid_out]
    · exact q
    · intro y
      obtain ⟨ob, h2, h3⟩ := lookup_some_of y
      have e := g.fz (shw_in h2)
      rw [q] at e
      rcases z with ⟨ps, rfl⟩ | ⟨oc, vs, rfl, hf⟩
      · cases e
      · have e : L2.fz oc = L2.fz ob := Option.some.inj e
        injection e with e
        subst e
        obtain ⟨v, hv⟩ := hd _ h3
        rw [hf] at hv
        cases hv
theorem TB.shown {cs : List (Addr × Obj)} (hc : ∀ q ∈ cs, H q.1 = none) (h : TB T H) : TB T (shw cs H) := fun t m => (h t m).mono' fun b o q _ => by
  rw [shw_out]
  · exact q
  · intro z
    obtain ⟨ob, _, h2⟩ := lookup_some_of z
    rw [hc _ h2] at q
    cases q
theorem Gr.back {cs : List Addr} (hc : ∀ c ∈ cs, ∃ o v, H c = some (L2.fz o) ∧ o.data = .cell v) (h2 : ∀ c ∈ cs, H1 c = none) (g : Gr T (hid cs H) H1) : Gr T H (bck cs H H1) := by
  refine ⟨fun b o q n => ?_, fun b ps q => ?_, fun h t m => ?_⟩
  · by_cases hb : b ∈ cs
    · rw [bck_in hb]; exact q
    · rw [bck_out hb]
      exact g.keep b o (by rw [hid_out hb]; exact q) n
  · by_cases hb : b ∈ cs
    · rw [bck_in hb]; exact ⟨ps, q⟩
    · rw [bck_out hb]
      exact g.tl b ps (by rw [hid_out hb]; exact q)
  · have h1 : TB T (hid cs H) := fun t m => (h t m).mono' fun b o q z => by
      rw [hid_out]
      · exact q
      · intro y
        obtain ⟨ob, v, e1, e2⟩ := hc b y
        rw [q] at e1
        rcases z with ⟨ps, rfl⟩ | ⟨oc, vs, rfl, hf⟩
        · cases e1
        · have e : L2.fz oc = L2.fz ob := Option.some.inj e1
          injection e with e
          subst e
          rw [hf] at e2
          cases e2
    refine (g.tb h1 t m).mono' fun b o q z => ?_
    rw [bck_out]
    · exact q
    · intro y
      rw [h2 b y] at q
      cases q
theorem TB.hidden {cs : List Addr} (hc : ∀ c ∈ cs, ∃ o v, H c = some (L2.fz o) ∧ o.data = .cell v) (h : TB T H) : TB T (hid cs H) := fun t m => (h t m).mono' fun b o q z => by
  rw [hid_out]
  · exact q
  · intro y
    obtain ⟨ob, v, e1, e2⟩ := hc b y
    rw [q] at e1
    rcases z with ⟨ps, rfl⟩ | ⟨oc, vs, rfl, hf⟩
    · cases e1
    · have e : L2.fz oc = L2.fz ob := Option.some.inj e1
      injection e with e
      subst e
      rw [hf] at e2
      cases e2
end
/-! ### making one -/
def BMain (mg : Str → Option Value) (base : Heap) : Prop := ∃ bm ob, mg "__builtins__" = some (.ref bm) ∧ bm ≠ builtinsNs ∧ base.get? bm = some ob ∧ ob.cls = .type "module" ∧ ob.dict = some builtinsNs ∧ ob.data = .plain
def tLam (T : List Tab) (t : Tab) (obj : Addr → Value → Obj) : TE := fun _ H Q => TB T H ∧ ∀ (H' : Hp) (f c : Addr) (ctv : Value), Gr T H H' → H f = none → H' f = some (fz (obj c ctv)) → CodeAt H' (.ref c) t.qual → Q (.ref f) H'
section
variable {X : Cx}
theorem pe_lam {params : Arguments} {body : Expr} {scope : Scope} {pos : Pos} {T : List Tab} {t : Tab} {c : Addr} (ht : t ∈ T) (hT : ∀ t1 ∈ T, ∀ t2 ∈ T, t1.P = t2.P → t1 = t2) (hcode : X.env.code = .ref c) (hcd : PySem.W.CodeHd X.base c t.P) (hbm : BMain X.mg X.base)
    (hq : X.env.qual ++ "<lambda>" = t.qual) (hpos : t.pos = pos) (hdef : defaultsOf params X.env = ([], [])) (hfree : ∀ y ∈ scope.names, y.2 = .free → ∃ c, X.env.cells.lookup y.1 = some c) :
    PE X (.Lambda params body scope pos) (tLam T t fun c' ctv => PySem.W.kla_obj "<lambda>" t.qual params body scope (cloFrom X.env.cells scope.names []) ((X.mg "__name__").getD .none) c' ctv) := by
  intro pins s σ H Q I h
  obtain ⟨tb, h⟩ := h
  refine PySem.W.kla_eval hdef ?_
  have hcl := closure_ok hfree
  have hgs : s.heap.Ns mainGlobals X.mg := I.ok.mod.glob.keeps I.bk
  have C := hcd.keeps I.bk
  obtain ⟨ps0, hP0⟩ := (tb t ht).at
  obtain ⟨bm, ob, b1, b2, b3, b4, b5, b6⟩ := hbm
  have hgP : mainGlobals ≠ t.P := fun q => by
    obtain ⟨o, es, ep, e, _⟩ := I.ok.mod.glob
    have := (I.bs _ _ e).2
    rw [q, hP0] at this
    cases this
  have hbP : bm ≠ t.P := fun q => by
    have := (I.bs _ _ b3).2
    rw [q, hP0] at this
    cases this
  have hbG : bm ≠ mainGlobals := fun q => by
    obtain ⟨o, es, ep, e, hd, _⟩ := I.ok.mod.glob
    rw [q, e] at b3
    cases b3
    rw [hd] at b6
    cases b6
  have hB : s.heap.BuiltinsAt X.mg t.P := ⟨bm, ob, b1, b2, hbG, hbP, I.bk _ _ b3, b4, b5, b6⟩
  subst hpos
  rw [hq]
  rcases tb t ht with hP | ⟨c1, oc1, vs1, tk1, hP, hc1, hd1, hv1⟩
  · have hPo : s.heap.get? t.P = some (PySem.W.tabObj #[]) := I.hok t.P _ hP
    refine PySem.W.kla_makeFunction (mg := X.mg) hcl I.ok.glob hgs hcode C hPo trivial rfl hgP hB fun c' ctv h' tk hx hge hlt hrec htb => ?_
    obtain ⟨c2, oc, vs, t', e2, hoc, hd, hv⟩ := hrec
    cases e2
    generalize hobj : PySem.W.kla_obj "<lambda>" t.qual params body scope (cloFrom X.env.cells scope.names []) ((X.mg "__name__").getD .none) c' ctv = obj
    have htb : h'.get? t.P = some (PySem.W.tabObj #[rawInt t.pos.line, rawInt t.pos.col, .ref c']) := htb
    have hfge : s.heap.objs.size ≤ h'.objs.size := Nat.le_trans hge (Nat.le_of_lt hlt)
    have nc' : H c' = none := I.hok.fresh hge
    have nf : H h'.objs.size = none := I.hok.fresh hfge
    have hcf : c' ≠ h'.objs.size := Nat.ne_of_lt hlt
    have hPs : t.P < s.heap.objs.size := I.hok.lt hP
    have hPc : t.P ≠ c' := Nat.ne_of_lt (Nat.lt_of_lt_of_le hPs hge)
    have hPf : t.P ≠ h'.objs.size := Nat.ne_of_lt (Nat.lt_of_lt_of_le hPs hfge)
    generalize hH : upd (upd (upd H t.P (.tbl #[rawInt t.pos.line, rawInt t.pos.col, .ref c'])) c' (fz oc)) h'.objs.size (fz obj) = H'
    have aP : H' t.P = some (.tbl #[rawInt t.pos.line, rawInt t.pos.col, .ref c']) := by rw [← hH, upd_ne hPf, upd_ne hPc, upd_same]
    have ac : H' c' = some (fz oc) := by rw [← hH, upd_ne hcf, upd_same]
    have af : H' h'.objs.size = some (fz obj) := by rw [← hH, upd_same]
    have ao : ∀ b, b ≠ t.P → b ≠ c' → b ≠ h'.objs.size → H' b = H b := fun b z1 z2 z3 => by rw [← hH, upd_ne z3, upd_ne z2, upd_ne z1]
    have old : ∀ b o, H b = some o → b ≠ t.P → H' b = some o := fun b o q z => by
      rw [ao b z (ne_of_none q nc') (ne_of_none q nf)]; exact q
    have hk : ∀ b o, b ≠ t.P → s.heap.get? b = some o → (h'.push obj).get? b = some o := fun b o z e => Heap.get?_push_of_some _ (hx b o z e)
    have un : Un X.fs [] H H' s.heap (h'.push obj) := by
      have np : ∀ b, H b = none → b ≠ t.P := fun b n z => by rw [z, hP] at n; cases n
      refine ⟨fun b o e n _ _ => hk b o (np b n) e, fun b o e n _ _ => ⟨o.slots, hk b o (np b n) e⟩, fun b o e n _ => ?_, fun b o e _ => ?_, fun b xs q => old b _ q (fun z => by rw [z, hP] at q; cases q), fun b o x q => old b _ q (fun z => by rw [z, hP] at q; cases q), fun b ps q => ?_⟩
      · have lt := Heap.lt_size e
        rw [ao b (np b n) (Nat.ne_of_lt (Nat.lt_of_lt_of_le lt hge)) (Nat.ne_of_lt (Nat.lt_of_lt_of_le lt hfge))]
        exact n
      · by_cases z : b = t.P
        · subst z
          exact ⟨_, Heap.get?_push_of_some _ htb⟩
        · exact ⟨o, hk b o z e⟩
      · by_cases z : b = t.P
        · subst z
          rw [hP] at q
          obtain rfl : #[] = ps := by
            have := Option.some.inj q
            injection this
          exact ⟨#[rawInt t.pos.line, rawInt t.pos.col, .ref c'], by rw [aP]; simp⟩
        · exact ⟨#[], by rw [old b _ q z]; simp⟩
    have hok : HOk X.prog X.w H' (h'.push obj) := fun a o e => by
      by_cases z1 : a = h'.objs.size
      · subst z1
        rw [af] at e
        cases e
        exact fz_ok (Heap.get?_push_size _ (by rw [← hobj]; rfl))
      by_cases z2 : a = c'
      · subst z2
        rw [ac] at e
        cases e
        exact fz_ok (Heap.get?_push_of_some _ hoc)
      by_cases z3 : a = t.P
      · subst z3
        rw [aP] at e
        cases e
        exact Heap.get?_push_of_some _ htb
      rw [ao a z3 z2 z1] at e
      refine (I.hok a o e).stay (fun b u hb q => hk b u ?_ q) (fun b q => old b _ q (fun z => by rw [z, hP] at q; cases q)) fun b xs q => old b _ q (fun z => by rw [z, hP] at q; cases q)
      rcases hb with rfl | hb
      · exact z3
      · intro z
        rw [z, hP] at hb
        cases hb
    refine ⟨.ref h'.objs.size, H', I.un un hok, rfl, h H' _ c' ctv ⟨fun b o q n => old b o q fun z => ?_, fun b ps q => ?_, fun tb' t2 m2 => ?_⟩ nf (by dsimp only; rw [hobj]; exact af) ⟨c', oc, vs, t', rfl, ac, hd, hv⟩⟩
    · rw [z, hP] at q
      exact n _ (Option.some.inj q).symm
    · by_cases z : b = t.P
      · exact ⟨_, by rw [z]; exact aP⟩
      · exact ⟨ps, old b _ q z⟩
    · by_cases z : t2.P = t.P
      · obtain rfl := hT t2 m2 t ht z
        exact .inr ⟨c', oc, vs, t', aP, ac, hd, hv⟩
      · rcases tb' t2 m2 with q | ⟨c3, oc3, vs3, tk3, q1, q2, q3⟩
        · exact .inl (old _ _ q z)
        · exact .inr ⟨c3, oc3, vs3, tk3, old _ _ q1 z, old _ _ q2 (fun z => by rw [z, hP] at q2; cases q2), q3⟩
  · have hPo : s.heap.get? t.P = some (PySem.W.tabObj #[rawInt t.pos.line, rawInt t.pos.col, .ref c1]) := I.hok t.P _ hP
    refine PySem.W.kla_makeFunctionHit (mg := X.mg) (cv := .ref c1) hcl I.ok.glob hgs hcode C hPo (by simp [TriplesOk, rawInt]) (by simp [codeAmong, rawInt]) hB fun ctv h' tk hk hsz => ?_
    generalize hobj : PySem.W.kla_fn "<lambda>" t.qual params body scope (cloFrom X.env.cells scope.names []) ((X.mg "__name__").getD .none) (.ref c1) ctv = fdd
    have nf : H h'.objs.size = none := I.hok.fresh hsz
    have sm : Same H (upd H h'.objs.size (fz { cls := .type "function", data := .func fdd })) := fun b o e => by rw [upd_ne (ne_of_none e nf)]; exact e
    refine ⟨.ref h'.objs.size, _, I.laid (o := fz { cls := .type "function", data := .func fdd }) (fun b o e => Heap.get?_push_of_some _ (hk b o e)) hsz (fz_ok (Heap.get?_push_size _ rfl)), rfl, h _ _ c1 ctv (.of sm) nf ?_ ⟨c1, oc1, vs1, tk1, rfl, sm _ _ hc1, hd1, hv1⟩⟩
    rw [upd_same, ← hobj]
end
/-! ### the call of a function that a name holds -/
section
variable {X : Cx} {k : Nat} {x : Str} {p pos : Pos} {e : Expr} {es : List Expr} {t : TA}
/-- f(..), f a name of this def that holds a lambda: its promise is chosen by its address -/
def tCallV (P : Program) (w : World) (K : PySem.W.Frag) (mg : Str → Option Value) (base : Heap) (k : Nat) (i : Nat) (t : TA) : TE := fun σ H Q => ∃ f fd ps sp o, σ[i]? = some (some (.ref f)) ∧ FnOk P w K mg base CX0 k f fd ps sp ∧ (∀ (s : Shared) (us : List Value), us.length = ps.length → BindsTo s fd ⟨us, []⟩ (ps.zip us)) ∧
  H f = some (fz o) ∧ (∃ oc od fd' sl, o = ⟨oc, od, .func fd', sl⟩) ∧ t σ H fun vs H1 => H1 f = some (fz o) ∧ sp vs H1 Q E0
theorem pe_callV {i : Nat} (hr : Room k X.A) (hN : X.N[i]? = some x) (hv : Vis X.env.scope x) (ha : PA X (e :: es) t) (hdb : (x == ("__debug__" : Str)) = false := by decide) (hcd : (x == ("__classdict__" : Str)) = false := by decide)
    (he : starEach (e :: es) X.env = (false, eval e X.env) :: starEach es X.env := by rfl) (hpl : (backTo pos (starEach es X.env)).any (·.1) = false := by rfl) :
    PE X (.Call (.Name x p) (e :: es) [] pos) (tCallV X.prog X.w X.K X.mg X.base k i t) := by
  intro pins s σ H Q I h
  obtain ⟨f, fd, ps, sp, o, hσ, F, hb, hf, ⟨oc, od, fd', sl, rfl⟩, h⟩ := h
  refine wpAny_Call_Name_kw (thn (pe_var (X := X) hN hv hdb hcd pins s σ H (fun v H' => v = .ref f ∧ H' = H) I ⟨_, hσ, rfl, rfl⟩) fun u s1 ⟨v, H', I1, r, e1, e2⟩ => ?_)
  subst e1 e2
  have r : u = .ref f := r
  subst r
  refine PySem.W.callWith_F (q := f) ⟨_, _, _, _, (I1.hok f _ hf).1⟩ (thn (ha pos pins s1 σ _ _ I1 h) fun us s2 ⟨vs, H2, I2, r2, hf2, q⟩ => ⟨⟨_, _, _, _, (I2.hok f _ hf2).1⟩, ?_⟩) he hpl
  have hl : us.length = ps.length := by rw [← r2.length]; exact F.len _ _ _ _ q
  refine wpAny_call (codeAny_mono (F.run X.A X.stack s2 H2 ⟨us, []⟩ us vs Q E0 hr I2.env0 (hb s2 us hl) r2 q) fun r s' hq => ?_)
  cases r with
  | error e => exact False.elim hq
  | ok fl =>
    cases fl with
    | ret u => exact I2.after hq
    | next => exact False.elim hq
    | brk => exact False.elim hq
    | cont => exact False.elim hq
end
end L2

end
section
set_option Elab.async false
set_option linter.all false
set_option maxRecDepth 100000
set_option maxHeartbeats 4000000
/-! the request, where defs of the text make lambdas: their tables are tracked from the start -/
namespace L2
open PySem PySem.Spec PyProof.Rows
open PySem.W (WData Codec OpenSpec Well WellAll ReadsW ReadsAllW)
theorem tabIn_of {K : PySem.W.Frag} {x : Str} {f c P : Addr} {oc oc2 : Value} {od od2 : Option Addr} {fd : FuncData} {sl sl2 : Array (Option Value)} {vs : Array Value} (a : PySem.W.nsIn K mainGlobals x = some (some (.ref f))) (l : K.lookup f = some ⟨oc, od, .func fd, sl⟩) (cc : fd.code = .ref c)
    (lc : K.lookup c = some ⟨oc2, od2, .fields vs, sl2⟩) (v : vs[11]? = some (.ref P)) : PySem.W.tabIn K x = some (c, P) := by
  unfold PySem.W.tabIn
  rw [a]
  dsimp only
  rw [l]
  dsimp only
  rw [cc]
  dsimp only
  rw [lc]
  dsimp only
  rw [v]
theorem Fun.okC {P : Program} {w : World} {K : PySem.W.Frag} {mg : Str → Option Value} {base : Heap} {x qual : Str} {st : Stmt} {f c : Addr} {fd : FuncData} {N ps : List Str} {k : Nat} {sp : Sp} (F : Fun K x qual st f fd) (hc : fd.code = .ref c) (S : FnScope N ps (defScope st)) (len : ∀ vs H Q E, sp vs H Q E → vs.length = ps.length)
    (hbody : ∀ (A : Around) (outer : List Env) (s : Shared) (H : Hp) (vs : List V) (Q : VK) (E : XK), Room k (A.deeper (envOfC qual (defScope st) s.heap.objs.size f (.ref c))) → sp vs H Q E →
      ∃ t, PSs (cxOf CX0 P w K mg base N qual (defScope st) f (.ref c) A outer s H E).nox (defBody st) t ∧ t { nx := fun _ H' => Q .non H', rt := Q } (start N vs) H) : FnOk P w K mg base CX0 (k + 1) f fd ps sp := by
  obtain ⟨oc, od, kV, doc, pm, an, cdv, ct, osl, rfl, lk, hcd⟩ := F.ex
  have hc : cdv = .ref c := hc
  subst hc
  refine fn_of lk hcd S len fun A outer s H vs Q E hr hsp => ?_
  obtain ⟨t, h, q⟩ := hbody A outer s H vs Q E hr hsp
  exact ⟨t, h.nox, q⟩
def tabH (Ps : List Addr) (H : Hp) : Hp := fun b => if b ∈ Ps then some (.tbl #[]) else H b
theorem tabH_in {Ps : List Addr} {H : Hp} {b : Addr} (h : b ∈ Ps) : tabH Ps H b = some (.tbl #[]) := if_pos h
theorem tabH_out {Ps : List Addr} {H : Hp} {b : Addr} (h : b ∉ Ps) : tabH Ps H b = H b := if_neg h
mutual
theorem Dw.same {K : PySem.W.Frag} {H H' : Hp} (e : Same H H') (et : ∀ a xs, SqT K H a xs → SqT K H' a xs) : ∀ (d : WData) (v : V), Dw K H v d → Dw K H' v d
  | .none, _, h => by cases h; exact .non
  | .bool b, _, h => by cases h; exact .bl b
  | .int i, _, h => by cases h; exact .int i
  | .str s, _, h => by cases h; exact .str s
  | .bytes b, _, h => by cases h with | byt b => exact .byt b
  | .list ds, _, h => by
    cases h with
    | lst hs ha => exact .lst (e.seq hs) (DwAll.same e et ds _ ha)
  | .tuple ds, _, h => by
    cases h with
    | tup hs ha => exact .tup (et _ _ hs) (DwAll.same e et ds _ ha)
  | .float _, _, h => by cases h
  | .dict _, _, h => by cases h
  | .bytearray _, _, h => by cases h
  | .set _, _, h => by cases h
  | .frozenset _, _, h => by cases h
  | .obj _ _, _, h => by cases h
theorem DwAll.same {K : PySem.W.Frag} {H H' : Hp} (e : Same H H') (et : ∀ a xs, SqT K H a xs → SqT K H' a xs) : ∀ (ds : List WData) (vs : List V), DwAll K H vs ds → DwAll K H' vs ds
  | [], _, h => by cases h; exact .nil
  | d :: ds, _, h => by
    cases h with
    | cons h1 h2 => exact .cons (Dw.same e et d _ h1) (DwAll.same e et ds _ h2)
end
theorem Same.seqT {K : PySem.W.Frag} {H H' : Hp} {a : Addr} {xs : List V} (e : Same H H') (h : SqT K H a xs) : SqT K H' a xs := by
  rcases h with (h | ⟨o, h⟩) | h
  · exact .inl (.inl (e _ _ h))
  · exact .inl (.inr ⟨o, e _ _ h⟩)
  · exact .inr h
theorem spec_callT {P : Program} {w : World} {K : PySem.W.Frag} {mg mb : Str → Option Value} {k : Nat} {fa : Addr} {fd : FuncData} {ps : List Str} {sp : Sp} {s₁ : Shared} {vals : List Value} {ds : List WData} {R : PySem.W.WRecords} {cl : Str → Option Addr} {d0 : WData} {tabs : List (Addr × Addr)}
    (KX : K.In s₁.heap) (hns : s₁.heap.Ns mainGlobals mg) (hb : s₁.heap.Ns builtinsNs mb) (hbb : ∀ x : Str, x ≠ "__name__" → mb x = bootBuiltins x) (hlim : s₁.heap.NoLimit) (hbm : BMain mg s₁.heap) (hT : PySem.W.TabsAt tabs s₁.heap) (hKT : PySem.W.noTabs K = true) (hg : s₁.gens = #[])
    (hwl : WellAll w.params s₁.heap vals ds) (hpl : plWs ds = true) (hwt : ∀ d ∈ ds, d.weight ≤ 1048576) (hr : Room k callerA)
    (F : ∀ base : Heap, K.In base → base.Ns mainGlobals mg → BMain mg base → (∀ t ∈ tabs, PySem.W.CodeHd base t.1 t.2) → FnOk P w K mg base CX0 k fa fd ps sp) (hbind : ∀ (s : Shared) (us : List Value), us.length = ps.length → BindsTo s fd ⟨us, []⟩ (ps.zip us)) (hlen : ds.length = ps.length)
    (hsp : ∀ (H : Hp) (xs : List V), (∀ t ∈ tabs, H t.2 = some (.tbl #[])) → DwAll K H xs ds → sp xs H (fun v H' => Dw K H' v d0) fun _ _ _ => False) :
    codeAny (model P w) callerA (.call (.ref fa) ⟨vals, []⟩) (fun r s' => ∃ u as, r = .ok (.ret u) ∧ ReadsW R cl s'.heap u d0 as ∧ OldK s₁.heap s'.heap ∧ s'.os = s₁.os ∧ AllBare s'.gens) s₁ := by
  obtain ⟨A, ho, ar⟩ := area_all ds vals hwl hpl hwt
  have hO : OnlyF (argH K s₁.heap A) := argH_only ar
  have hok : HOk P w (argH K s₁.heap A) s₁.heap := argH_ok ar
  have hS := dw_all KX ar ds vals hwl hpl ho
  have hV := vals_toV ho
  have hK : ∀ b u, argH K s₁.heap A b = some u → K.lookup b = none := fun b u q => (argH_is ar q).1
  have seqA : ∀ b u, argH K s₁.heap A b = some u → ∃ (c : Value) (vs : List Value), s₁.heap.get? b = some { cls := c, data := .seq vs.toArray } := fun b u q => by
    obtain ⟨_, vs, _, _, ⟨e2, _⟩ | ⟨e2, _⟩⟩ := argH_is ar q
    · exact ⟨_, vs, e2⟩
    · exact ⟨_, vs, e2⟩
  generalize argH K s₁.heap A = H0 at hO hok hS hK seqA
  have tabO : ∀ b, b ∈ tabs.map (·.2) → s₁.heap.get? b = some (PySem.W.tabObj #[]) ∧ ∃ t ∈ tabs, t.2 = b := fun b m => by
    obtain ⟨t, ht, rfl⟩ := List.mem_map.mp m
    exact ⟨(hT t ht).2, t, ht, rfl⟩
  have noT : ∀ b u, H0 b = some u → b ∉ tabs.map (·.2) := fun b u q m => by
    obtain ⟨c, vs, e⟩ := seqA b u q
    rw [(tabO b m).1] at e
    have := Option.some.inj e
    injection this with _ _ h3
    cases h3
  have same0 : Same H0 (tabH (tabs.map (·.2)) H0) := fun b o q => by rw [tabH_out (noT b o q)]; exact q
  generalize hH : tabH (tabs.map (·.2)) H0 = H at same0
  have atT : ∀ b, b ∈ tabs.map (·.2) → H b = some (.tbl #[]) := fun b m => by rw [← hH, tabH_in m]
  have notT : ∀ b, b ∉ tabs.map (·.2) → H b = H0 b := fun b m => by rw [← hH, tabH_out m]
  have hokT : HOk P w H s₁.heap := fun a o e => by
    by_cases m : a ∈ tabs.map (·.2)
    · rw [atT a m] at e
      cases e
      exact (tabO a m).1
    · rw [notT a m] at e
      exact (hok a o e).stay (fun b u _ q => q) (fun b q => same0 _ _ q) fun b xs q => same0 _ _ q
  have noA : ∀ {b : Addr} {o : Obj} {es : Array DictEntry} {ep : Nat}, s₁.heap.get? b = some o → o.data = .dict es ep → H b = none := fun {b o es ep} e d => by
    cases q : H b with
    | none => rfl
    | some u =>
      by_cases m : b ∈ tabs.map (·.2)
      · rw [(tabO b m).1] at e
        cases e
        cases d
      · rw [notT b m] at q
        obtain ⟨c, vs, e2⟩ := seqA b u q
        rw [e2] at e
        cases e
        cases d
  have base_of : ∀ {b : Addr} {o : Obj}, s₁.heap.get? b = some o → H b = none → (hidT s₁.heap H).get? b = some o := fun e n => hidT_get e n
  have nsK : ∀ {b : Addr} {m : Str → Option Value}, s₁.heap.Ns b m → (hidT s₁.heap H).Ns b m := fun {b m} ⟨o, es, ep, e, d, r⟩ => ⟨o, es, ep, base_of e (noA e d), d, r⟩
  have nK : ∀ b o, K.lookup b = some o → H b = none := fun b o e => by
    cases q : H b with
    | none => rfl
    | some u =>
      by_cases m : b ∈ tabs.map (·.2)
      · have e2 := KX b o e
        rw [(tabO b m).1] at e2
        cases e2
        have h2 := List.all_eq_true.mp hKT (b, PySem.W.tabObj #[]) (PySem.W.mem_of_lookupK e)
        exact absurd (show false = true from h2) Bool.false_ne_true
      · rw [notT b m] at q
        rw [hK b u q] at e
        cases e
  have hKb : K.In (hidT s₁.heap H) := fun b o e => base_of (KX b o e) (nK b o e)
  have hM : Mod K mg (hidT s₁.heap H) := ⟨hKb, nsK hns, ⟨mb, nsK hb, hbb⟩, let ⟨mc, h1, h2⟩ := hlim; ⟨mc, nsK h1, h2⟩⟩
  have e0 : Env0 P w K mg (hidT s₁.heap H) callerA [] s₁ H := ⟨rfl, hM, fun b o e => of_hidT e, Nat.le_of_eq (hidT_size _ _), trivial, fun b hb => absurd (show b ∈ ([] : List Addr) from hb) (by simp), hokT, .of_eq hg⟩
  have hl : vals.length = ps.length := by rw [wellAll_len hwl]; exact hlen
  have plainN : ∀ {b : Addr} {o : Obj}, s₁.heap.get? b = some o → o.cls ≠ .none → (∀ vs n, o.data ≠ .seq vs n) → H b = none := fun {b o} e hc hd => by
    cases q : H b with
    | none => rfl
    | some u =>
      by_cases m : b ∈ tabs.map (·.2)
      · rw [(tabO b m).1] at e
        cases e
        exact absurd rfl hc
      · rw [notT b m] at q
        obtain ⟨c, vs, e2⟩ := seqA b u q
        rw [e2] at e
        cases e
        exact absurd rfl (hd _ _)
  have hbm' : BMain mg (hidT s₁.heap H) := by
    obtain ⟨bm, ob, b1, b2, b3, b4, b5, b6⟩ := hbm
    exact ⟨bm, ob, b1, b2, base_of b3 (plainN b3 (by rw [b4]; nofun) (by rw [b6]; nofun)), b4, b5, b6⟩
  have hcd : ∀ t ∈ tabs, PySem.W.CodeHd (hidT s₁.heap H) t.1 t.2 := fun t m => by
    obtain ⟨o, vs, file, tf, flags, tg, inF, text, tt, e1, e2, e3, r⟩ := (hT t m).1
    exact ⟨o, vs, file, tf, flags, tg, inF, text, tt, base_of e1 (plainN e1 (by rw [e2]; nofun) (by rw [e3]; nofun)), e2, e3, r⟩
  refine codeAny_mono ((F _ hKb (nsK hns) hbm' hcd).run callerA [] s₁ H ⟨vals, []⟩ vals (vals.map toV) _ _ hr e0 (hbind s₁ vals hl) hV (hsp H _ (fun t m => atT _ (List.mem_map_of_mem (f := (·.2)) m)) (DwAll.same same0 (fun a xs q => same0.seqT q) _ _ hS))) fun r s' x => ?_
  cases r with
  | error e => exact False.elim x
  | ok fl =>
    cases fl with
    | next => exact False.elim x
    | brk => exact False.elim x
    | cont => exact False.elim x
    | ret u =>
      obtain ⟨v, H', os, bare, un, hok', r', q⟩ := x
      have kept : ∀ b o, b ∉ tabs.map (·.2) → s₁.heap.get? b = some o → s'.heap.get? b = some o := fun b o m e => by
        cases q2 : H b with
        | none => exact un.keep b o e q2 (by intro z; exact absurd (show b ∈ ([] : List Addr) from z) (by simp)) (by simp)
        | some u2 =>
          rw [notT b m] at q2
          rcases hO b with z | ⟨ob, u3, z⟩
          · rw [q2] at z
            cases z
          · have z2 := un.frzs b ob _ (same0 _ _ z)
            obtain ⟨e1, _⟩ := hok b _ z
            obtain ⟨e2, _⟩ := hok' b _ z2
            rw [e] at e1
            cases e1
            exact e2
      have grown : ∀ b, b ∈ tabs.map (·.2) → ∃ ps, s'.heap.get? b = some (PySem.W.tabObj ps) := fun b m => by
        obtain ⟨more, z⟩ := un.tbls b _ (atT b m)
        exact ⟨_, hok' b _ z⟩
      have KX' : K.In s'.heap := fun b o e => by
        refine kept b o (fun m => ?_) (KX b o e)
        have := nK b o e
        rw [atT b m] at this
        cases this
      obtain ⟨as, hrd⟩ := Dw.reads (R := R) (cl := cl) hok' KX' d0 v u q r'
      refine ⟨u, as, rfl, hrd, ⟨fun b o e => ?_, fun b o e => ?_⟩, os, bare⟩
      · by_cases m : b ∈ tabs.map (·.2)
        · obtain ⟨t, ht, rfl⟩ := (tabO b m).2
          have e2 := (tabO _ m).1
          rw [e] at e2
          obtain rfl := Option.some.inj e2
          obtain ⟨ps, hP⟩ := grown _ m
          exact .inr (.inl ⟨((hT t ht).1.tab (hT t ht).2).isCodeTable, rfl, #[], ps, rfl, by rw [Array.empty_append]; exact hP⟩)
        · exact .inl (kept b o m e)
      · by_cases m : b ∈ tabs.map (·.2)
        · obtain ⟨ps, hP⟩ := grown _ m
          exact ⟨_, hP⟩
        · exact ⟨o, kept b o m e⟩
theorem walk_specT {r : OpenSpec} {k : Nat} {q : Program} {loose : List Str} {XP : (Str → Option Value) → Heap → Prop} {YP : World → Heap → Prop} {d : DefRec} {K : Params → PySem.W.Frag} {ps : List Str} {sp : PySem.W.Frag → Sp} {tabs : PySem.W.Frag → List (Addr × Addr)}
    (hwell : r.wellSaid = true) (hdf : d.params.defaults = []) (hlen : r.args.length = ps.length) (hr : Room k callerA)
    (hY : ∀ (w : World) (h : Heap), YP w h → (K w.params).In h)
    (F : ∀ (w : World) (mg : Str → Option Value) (fa : Addr) (h : Heap), YP w h → (K w.params).In h → h.Ns mainGlobals mg → mg d.name = some (.ref fa) →
      PySem.W.noTabs (K w.params) = true ∧ (∀ t ∈ tabs (K w.params), ∃ x dd, (recsOf q).find? (fun e => e.name == x) = some dd ∧ PySem.W.tabIn (K w.params) x = some t) ∧
      ∃ fd : FuncData, (∀ (s : Shared) (us : List Value), us.length = ps.length → BindsTo s fd ⟨us, []⟩ (ps.zip us)) ∧
        ∀ base : Heap, (K w.params).In base → base.Ns mainGlobals mg → BMain mg base → (∀ t ∈ tabs (K w.params), PySem.W.CodeHd base t.1 t.2) → FnOk r.prog w (K w.params) mg base CX0 k fa fd ps (sp (K w.params)))
    (hsp : ∀ (K : PySem.W.Frag) (H : Hp) (xs : List V) (a : Codec.denoteAll r.args), (∀ t ∈ tabs K, H t.2 = some (.tbl #[])) → Codec.withinAll r.args a = true → Codec.app r.args r.asked a = true → DwAll K H xs (Codec.encAll r.args a) →
      sp K xs H (fun v H' => Dw K H' v (r.ret.enc (Codec.app r.args r.f a))) fun _ _ _ => False) :
    PySem.W.WalkOS q loose XP YP r d [] (fun f vs => PySem.call f vs) := by
  intro w s_0 s₁ mg mb G Y fa o pm cd doc dV kV ho hd hcd hD hmg hg args vals as hpre hlay hrd hwl hlo
  obtain ⟨a, e1, e2⟩ := PySem.W.os_pre_some hpre
  obtain ⟨e3, hwi⟩ := Codec.encAll_of_decAll r.args args a e1
  subst e3
  have KX := hY w _ Y
  obtain ⟨hKT, hrec, fd, hb, hF⟩ := F w mg fa _ Y KX G.T.g hmg
  have hT : PySem.W.TabsAt (tabs (K w.params)) s₁.heap := fun t m => by
    obtain ⟨x, dd, h1, h2⟩ := hrec t m
    exact PySem.W.tab_of G.T KX h1 h2
  refine PySem.W.enter_call (codeAny_mono (spec_callT (R := []) (cl := classAt s_0.heap) (d0 := r.ret.enc (Codec.app r.args r.f a)) KX G.T.g G.T.b G.T.builtins G.T.nolimit G.T.bmain hT hKT hg hwl (pl_encAll _ _) (layable_weight hlay) hr hF hb (by rw [encAll_len]; exact hlen)
    (fun H xs hO hS => hsp _ H xs a hO hwi e2 hS)) fun r' s' hq => ?_)
  obtain ⟨u, as', rfl, h1, h2, h3, h4⟩ := hq
  exact ⟨.inl ⟨u, _, as', rfl, fun _ => rfl, h1, (OpenSpec.post_iff hwell hwi _ _).mpr rfl, fun z => Bool.noConfusion (show false = true from z)⟩, h2, h3, h4⟩
end L2

end
section
set_option Elab.async false
set_option linter.all false
set_option maxRecDepth 100000
set_option maxHeartbeats 4000000
/-! min and max by a key: a lambda of one parameter; the keys' values, how they compare -/
namespace L2
open PySem PySem.Spec PyProof.Rows
/-- the place of the best of the first so many: one ahead stays unless one behind is better -/
def bst (better : Nat → Nat → Bool) : Nat → Nat
  | 0 => 0
  | j + 1 => if j = 0 then 0 else if better j (bst better j) = true then j else bst better j
theorem bst_lt (better : Nat → Nat → Bool) : ∀ j, 0 < j → bst better j < j
  | 0, h => absurd h (Nat.lt_irrefl _)
  | j + 1, _ => by
    show (if j = 0 then 0 else if better j (bst better j) = true then j else bst better j) < j + 1
    by_cases z : j = 0
    · rw [if_pos z]; omega
    · rw [if_neg z]
      have := bst_lt better j (by omega)
      by_cases b : better j (bst better j) = true
      · rw [if_pos b]; omega
      · rw [if_neg b]; omega
/-- the key: its promise item by item, what its values are -/
def KeyFn (P : Program) (w : World) (K : PySem.W.Frag) (mg : Str → Option Value) (base : Heap) (T : List Tab) (k : Nat) (q : Addr) (H0 : Hp) (xs : List V) (KeyOf : Hp → Nat → V → Prop) : Prop :=
  ∃ (fd : FuncData) (ps : List Str) (sp : Sp) (o : Obj), FnOk P w K mg base CX0 k q fd ps sp ∧ (∀ (s : Shared) (us : List Value), us.length = ps.length → BindsTo s fd ⟨us, []⟩ (ps.zip us)) ∧ H0 q = some (fz o) ∧
    ∀ (i : Nat) (x : V), xs[i]? = some x → ∀ H1, Gr T H0 H1 → ∀ Q : VK, (∀ kv H2, Gr T H1 H2 → KeyOf H2 i kv → Q kv H2) → sp [x] H1 Q E0
/-- how two keys compare -/
def KeyCmp (X : Cx) (T : List Tab) (H0 : Hp) (KeyOf : Hp → Nat → V → Prop) (op : CmpOp) (better : Nat → Nat → Bool) : Prop :=
  ∀ (i j : Nat) (pins : List (Addr × Obj)) (σ : L2.St) (s : Shared) (H : Hp) (ki kj : V) (u v : Value) (Q : Value → Shared → Prop) (E : Value → Shared → Prop), Inv X pins σ H s → Gr T H0 H → KeyOf H i ki → KeyOf H j kj → RelV ki u → RelV kj v →
    (∀ s', Inv X pins σ H s' → Q (.bool (better i j)) s') → wpAny (model X.prog X.w) X.A.in1 (richCompare op u v) Q E s
section
variable {X : Cx} {T : List Tab} {k : Nat} {q l I S : Addr} {xs : List V} {KeyOf : Hp → Nat → V → Prop} {better : Nat → Nat → Bool} {H0 : Hp} {pins : List (Addr × Obj)} {σ : L2.St} {R : Result → Shared → Prop}
theorem key_call (F : KeyFn X.prog X.w X.K X.mg X.base T k q H0 xs KeyOf) (hr : Room (k + 1) X.A) {H : Hp} {s : Shared} (I : Inv X pins σ H s) (g : Gr T H0 H) {i : Nat} {x : V} {u : Value} (hx : xs[i]? = some x) (r : RelV x u) {Q : Value → Shared → Prop} {E : Value → Shared → Prop}
    (h : ∀ kv H' ku s', Inv X pins σ H' s' → Gr T H H' → KeyOf H' i kv → RelV kv ku → Q ku s') : wpAny (model X.prog X.w) X.A.in1 (call (.ref q) [u]) Q E s := by
  obtain ⟨fd, ps, sp, o, Fn, hb, hq, hsp⟩ := F
  have hs := hsp i x hx H g (fun kv H' => Gr T H H' ∧ KeyOf H' i kv) (fun kv H2 g2 k2 => ⟨g2, k2⟩)
  have hl : [u].length = ps.length := by have := Fn.len _ _ _ _ hs; simpa using this
  refine wpAny_call (codeAny_mono (Fn.run X.A.in1 X.stack s H ⟨[u], []⟩ [u] [x] _ E0 hr.in1 I.env0.in1 (hb s [u] hl) (.cons r .nil) hs) fun r s' hq => ?_)
  cases r with
  | error e => exact False.elim hq
  | ok fl =>
    cases fl with
    | ret ku =>
      obtain ⟨v, H', I', rv, g', k'⟩ := I.after hq
      exact h v H' ku s' I' g' k' rv
    | next => exact False.elim hq
    | brk => exact False.elim hq
    | cont => exact False.elim hq
theorem ne_iter {h : Heap} {its : Array Value} {j : Nat} (hl : h.IsList l its) (hi : h.IsListIter I l j) : l ≠ I := fun e => by
  obtain ⟨o, ho, hc, _⟩ := hl
  obtain ⟨o2, ho2, hc2, _⟩ := hi
  rw [e, ho2] at ho
  cases ho
  rw [hc2] at hc
  exact absurd (Value.type.inj hc) (by decide)
theorem fp_of {H H2 : Hp} {b : Addr} (f : FpOk X pins H b) (n : H2 b = none) : FpOk X pins H2 b := ⟨n, f.2⟩
theorem args_min_key (a v : Value) : argsOk "min" ⟨[a], [(Str.ofString "key", v)]⟩ := by unfold argsOk; kernel_rfl
theorem args_min_key_default (a v d : Value) : argsOk "min" ⟨[a], [(Str.ofString "key", v), (Str.ofString "default", d)]⟩ := by unfold argsOk; kernel_rfl
theorem args_max_key (a v : Value) : argsOk "max" ⟨[a], [(Str.ofString "key", v)]⟩ := by unfold argsOk; kernel_rfl

theorem min_loop (hc : X.calm = true) (hr : Room (k + 1) X.A) (F : KeyFn X.prog X.w X.K X.mg X.base T k q H0 xs KeyOf) (stab : ∀ H H' i kv, Gr T H H' → KeyOf H i kv → KeyOf H' i kv) (cmp : KeyCmp X T H0 KeyOf .Lt better) (hS : ∀ H, Gr T H0 H → SqL X.K H l xs) (hIS : I ≠ S) (kw : List (Str × Value))
    (hR : ∀ H s' x u, Inv X pins σ H s' → Gr T H0 H → xs[bst better xs.length]? = some x → RelV x u → R (.ok (.ret u)) s') :
    ∀ (r j : Nat) (s : Shared) (H : Hp) (xb kV : V) (vb kb : Value) (c : Nat), xs.length - j = r → 1 ≤ j → j ≤ xs.length → Inv X pins σ H s → Gr T H0 H → FpOk X pins H I → FpOk X pins H S → s.heap.IsListIter I l j →
      s.heap.get? S = some (seqObj "list" #[vb, kb] c) → xs[bst better j]? = some xb → RelV xb vb → KeyOf H (bst better j) kV → RelV kV kb →
      codeAny (model X.prog X.w) X.A (.builtin "min.loop" ⟨[.ref I, .ref q, .ref S], kw⟩) R s := by
  have hname : (toString "min" ++ toString ".loop" : String) = "min.loop" := by decide
  intro r
  induction r with
  | zero =>
    intro j s H xb kV vb kb c hrj h1 hj J g fI fS hit hSo hxb rb hkb rk
    have hin : j = xs.length := by omega
    subst hin
    have hh : X.A.in1.handled = none := J.ok.hd hc
    obtain ⟨its, rv, pl, hz⟩ := J.list (hS H g)
    have hlI := ne_iter pl.isList hit
    have W := Walks.list (prog := X.prog) (w := X.w) (A := X.A.in1) hh I l hlI its.toArray
    have hsz : its.toArray.size = xs.length := by rw [List.size_toArray, rv.length]
    refine codeAny_builtin PySem.F.entry_min_loop ?_
    rw [Around.under_plainId PySem.F.plain_min_loop _]
    show wpAny _ X.A.in1 (seqItems? (.ref S) >>= _) _ _ _
    refine wpAny_bind (wpAny_seqItems hSo rfl ?_)
    show wpAny _ X.A.in1 (tryCatch (pyNext (.ref I)) _ >>= _) _ _ _
    refine wpAny_bind (wpAny_tryCatch (W.done _ _ _ ⟨by rw [hsz]; exact hit, pl.isList⟩ fun h' tk' hk' => ?_))
    have J1 : Inv X pins σ H { s with heap := h', toks := tk' } := J.turned (it := I) (fun b o hb e => hk' b o (by simpa using hb) e) fI.1 fI.2.1 fI.2.2.2.1 fI.2.2.2.2.1 fI.2.2.2.2.2
    have hS' : h'.get? S = some (seqObj "list" #[vb, kb] c) := hk' S _ (by simpa using hIS.symm) hSo
    have s1 := Heap.SameBut.update h' S (Obj.mapSeq fun _ => (#[] : Array Value))
    show wpAny _ X.A.in1 (updateSeq S (fun _ => #[]) >>= _) _ _ _
    refine wpAny_bind ?_
    refine wpAny_updateSeq hS' rfl (wpAny_bind (wpAny_letGo (wpAny_pure ?_)))
    exact hR H _ xb vb (J1.turned (t' := tk') (it := S) (fun b o hb e => (s1.2 b hb).trans e) fS.1 fS.2.1 fS.2.2.2.1 fS.2.2.2.2.1 fS.2.2.2.2.2) g hxb rb
  | succ r ih =>
    intro j s H xb kV vb kb c hrj h1 hj J g fI fS hit hSo hxb rb hkb rk
    have hlt : j < xs.length := by omega
    have hh : X.A.in1.handled = none := J.ok.hd hc
    obtain ⟨its, rv, pl, hz⟩ := J.list (hS H g)
    have hlI := ne_iter pl.isList hit
    have W := Walks.list (prog := X.prog) (w := X.w) (A := X.A.in1) hh I l hlI its.toArray
    have hsz : its.toArray.size = xs.length := by rw [List.size_toArray, rv.length]
    refine codeAny_builtin PySem.F.entry_min_loop ?_
    rw [Around.under_plainId PySem.F.plain_min_loop _]
    show wpAny _ X.A.in1 (seqItems? (.ref S) >>= _) _ _ _
    refine wpAny_bind (wpAny_seqItems hSo rfl ?_)
    show wpAny _ X.A.in1 (tryCatch (pyNext (.ref I)) _ >>= _) _ _ _
    refine wpAny_bind (wpAny_tryCatch (W.item j _ _ _ (by rw [hsz]; exact hlt) ⟨hit, pl.isList⟩ fun v h' tk' hP hst' hk' => ?_))
    have hv : its[j]? = some v := by simpa using hP
    obtain ⟨x, hx⟩ : ∃ x, xs[j]? = some x := ⟨_, List.getElem?_eq_getElem hlt⟩
    obtain ⟨v2, hv2, rxv⟩ := rv.get hx
    rw [hv] at hv2
    obtain rfl := Option.some.inj hv2
    obtain ⟨oI, hoI, hoc, hod⟩ := id hst'.1
    have J1 : Inv X pins σ H { s with heap := h', toks := tk' } := J.turned (it := I) (fun b o hb e => hk' b o (by simpa using hb) e) fI.1 fI.2.1 fI.2.2.2.1 fI.2.2.2.2.1 fI.2.2.2.2.2
    have hS' : h'.get? S = some (seqObj "list" #[vb, kb] c) := hk' S _ (by simpa using hIS.symm) hSo
    have J2 := J1.pinned (fp := [I, S]) (fun b hb => by
      rcases List.mem_cons.mp hb with rfl | hb
      · exact fI
      · rw [List.mem_singleton.mp hb]; exact fS) (fun b hb => by
      rcases List.mem_cons.mp hb with rfl | hb
      · exact ⟨oI, hoI, fun v z => by rw [hod] at z; cases z⟩
      · rw [List.mem_singleton.mp hb]; exact ⟨_, hS', fun v z => by cases z⟩)
    have mI : (I, oI) ∈ pinsAt [I, S] h' := mem_pinsAt (by simp) hoI
    have mS : (S, seqObj "list" #[vb, kb] c) ∈ pinsAt [I, S] h' := mem_pinsAt (by simp) hS'
    show wpAny _ X.A.in1 (tryCatch (holding [v] (call (.ref q) [v])) _ >>= _) _ _ _
    refine wpAny_bind (wpAny_tryCatch (wpAny_holding (key_call F hr J2 g hx rxv fun kv H2 ku s2 J3 g2 hk2 rk2 => ?_)))
    show wpAny _ X.A.in1 (tryCatch (holding [v, ku] (richCompare .Lt ku kb >>= _)) _ >>= _) _ _ _
    refine wpAny_bind (wpAny_tryCatch (wpAny_holding (wpAny_bind (cmp j (bst better j) _ _ s2 H2 kv kV ku kb _ _ J3 (g.trans g2) hk2 (stab _ _ _ _ g2 hkb) rk2 rk fun s3 J4 => ?_))))
    have pI := J4.pin (I, oI) (List.mem_append_right _ (List.mem_append_right _ mI))
    have pS := J4.pin (S, seqObj "list" #[vb, kb] c) (List.mem_append_right _ (List.mem_append_right _ mS))
    have J5 := J4.unpinned
    refine wpAny_bind (wpAny_holding (wpAny_truthy_bool ?_))
    refine wpAny_bind (wpAny_letGo (wpAny_pure ?_))
    have hb1 : bst better (j + 1) = if better j (bst better j) = true then j else bst better j := by
      show (if j = 0 then 0 else _) = _
      rw [if_neg (by omega)]
    by_cases hb' : better j (bst better j) = true
    · have s1 := Heap.SameBut.update s3.heap S (Obj.mapSeq fun _ => #[v, ku])
      obtain ⟨c2, hc2⟩ : ∃ c2, (s3.heap.update S (Obj.mapSeq fun _ => #[v, ku])).get? S = some (seqObj "list" #[v, ku] c2) := ⟨_, get?_update_seq pS.1 fun _ => #[v, ku]⟩
      simp only [hb', if_true]
      refine wpAny_bind ?_
      refine wpAny_updateSeq pS.1 rfl (wpAny_bind (wpAny_letGo ?_))
      rw [hname]
      rw [if_pos hb'] at hb1
      refine wpAny_pure ⟨plainId_quiet PySem.F.plain_min_loop _, ih (j + 1) _ H2 x kv v ku c2 (by omega) (by omega) hlt ?_ (g.trans g2) (fp_of fI pI.2.1) (fp_of fS pS.2.1) ⟨oI, (s1.2 I hIS).trans pI.1, hoc, hod⟩ hc2 (by rw [hb1]; exact hx) rxv (by rw [hb1]; exact hk2) rk2⟩
      exact J5.turned (t' := s3.toks) (it := S) (fun b o hb e => (s1.2 b hb).trans e) pS.2.1 fS.2.1 fS.2.2.2.1 fS.2.2.2.2.1 fS.2.2.2.2.2
    · have hb2 : better j (bst better j) = false := by simpa using hb'
      simp only [hb2, Bool.false_eq_true, if_false]
      refine wpAny_bind (wpAny_letGo ?_)
      rw [hname]
      rw [if_neg hb'] at hb1
      exact wpAny_pure ⟨plainId_quiet PySem.F.plain_min_loop _, ih (j + 1) s3 H2 xb kV vb kb c (by omega) (by omega) hlt J5 (g.trans g2) (fp_of fI pI.2.1) (fp_of fS pS.2.1) ⟨oI, pI.1, hoc, hod⟩ pS.1 (by rw [hb1]; exact hxb) rb (by rw [hb1]; exact stab _ _ _ _ g2 hkb) rk⟩
theorem min_start (hc : X.calm = true) (hr : Room (k + 1) X.A) (F : KeyFn X.prog X.w X.K X.mg X.base T k q H0 xs KeyOf) (stab : ∀ H H' i kv, Gr T H H' → KeyOf H i kv → KeyOf H' i kv) (cmp : KeyCmp X T H0 KeyOf .Lt better) (hS : ∀ H, Gr T H0 H → SqL X.K H l xs) (hne : 0 < xs.length) (kw : List (Str × Value))
    {s : Shared} (J : Inv X pins σ H0 s) (hIS : I ≠ S) (fI : FpOk X pins H0 I) (fS : FpOk X pins H0 S) (hit : s.heap.IsListIter I l 0) (hSo : s.heap.get? S = some (seqObj "list" #[] 0))
    (hR : ∀ H s' x u, Inv X pins σ H s' → Gr T H0 H → xs[bst better xs.length]? = some x → RelV x u → R (.ok (.ret u)) s') :
    codeAny (model X.prog X.w) X.A (.builtin "min.loop" ⟨[.ref I, .ref q, .ref S], kw⟩) R s := by
  have hname : (toString "min" ++ toString ".loop" : String) = "min.loop" := by decide
  have hh : X.A.in1.handled = none := J.ok.hd hc
  have g : Gr T H0 H0 := Gr.refl H0
  obtain ⟨its, rv, pl, hz⟩ := J.list (hS H0 g)
  have hlI := ne_iter pl.isList hit
  have W := Walks.list (prog := X.prog) (w := X.w) (A := X.A.in1) hh I l hlI its.toArray
  have hsz : its.toArray.size = xs.length := by rw [List.size_toArray, rv.length]
  refine codeAny_builtin PySem.F.entry_min_loop ?_
  rw [Around.under_plainId PySem.F.plain_min_loop _]
  show wpAny _ X.A.in1 (seqItems? (.ref S) >>= _) _ _ _
  refine wpAny_bind (wpAny_seqItems hSo rfl ?_)
  show wpAny _ X.A.in1 (tryCatch (pyNext (.ref I)) _ >>= _) _ _ _
  refine wpAny_bind (wpAny_tryCatch (W.item 0 _ _ _ (by rw [hsz]; exact hne) ⟨hit, pl.isList⟩ fun v h' tk' hP hst' hk' => ?_))
  have hv : its[0]? = some v := by simpa using hP
  obtain ⟨x, hx⟩ : ∃ x, xs[0]? = some x := ⟨_, List.getElem?_eq_getElem hne⟩
  obtain ⟨v2, hv2, rxv⟩ := rv.get hx
  rw [hv] at hv2
  obtain rfl := Option.some.inj hv2
  obtain ⟨oI, hoI, hoc, hod⟩ := id hst'.1
  have J1 : Inv X pins σ H0 { s with heap := h', toks := tk' } := J.turned (it := I) (fun b o hb e => hk' b o (by simpa using hb) e) fI.1 fI.2.1 fI.2.2.2.1 fI.2.2.2.2.1 fI.2.2.2.2.2
  have hS' : h'.get? S = some (seqObj "list" #[] 0) := hk' S _ (by simpa using hIS.symm) hSo
  have J2 := J1.pinned (fp := [I, S]) (fun b hb => by
    rcases List.mem_cons.mp hb with rfl | hb
    · exact fI
    · rw [List.mem_singleton.mp hb]; exact fS) (fun b hb => by
    rcases List.mem_cons.mp hb with rfl | hb
    · exact ⟨oI, hoI, fun v z => by rw [hod] at z; cases z⟩
    · rw [List.mem_singleton.mp hb]; exact ⟨_, hS', fun v z => by cases z⟩)
  have mI : (I, oI) ∈ pinsAt [I, S] h' := mem_pinsAt (by simp) hoI
  have mS : (S, seqObj "list" #[] 0) ∈ pinsAt [I, S] h' := mem_pinsAt (by simp) hS'
  show wpAny _ X.A.in1 (tryCatch (holding [v] (call (.ref q) [v])) _ >>= _) _ _ _
  refine wpAny_bind (wpAny_tryCatch (wpAny_holding (key_call F hr J2 g hx rxv fun kv H2 ku s2 J3 g2 hk2 rk2 => ?_)))
  have pI := J3.pin (I, oI) (List.mem_append_right _ (List.mem_append_right _ mI))
  have pS := J3.pin (S, seqObj "list" #[] 0) (List.mem_append_right _ (List.mem_append_right _ mS))
  have J5 := J3.unpinned
  have s1 := Heap.SameBut.update s2.heap S (Obj.mapSeq fun _ => #[v, ku])
  obtain ⟨c2, hc2⟩ : ∃ c2, (s2.heap.update S (Obj.mapSeq fun _ => #[v, ku])).get? S = some (seqObj "list" #[v, ku] c2) := ⟨_, get?_update_seq pS.1 fun _ => #[v, ku]⟩
  show wpAny _ X.A.in1 (updateSeq S (fun _ => #[v, ku]) >>= _) _ _ _
  refine wpAny_bind ?_
  refine wpAny_updateSeq pS.1 rfl ?_
  rw [hname]
  refine wpAny_pure ⟨plainId_quiet PySem.F.plain_min_loop _, min_loop hc hr F stab cmp hS hIS kw hR _ 1 _ H2 x kv v ku c2 rfl (Nat.le_refl _) hne ?_ g2 (fp_of fI pI.2.1) (fp_of fS pS.2.1) ⟨oI, (s1.2 I hIS).trans pI.1, hoc, hod⟩ hc2 hx rxv hk2 rk2⟩
  exact J5.turned (t' := s2.toks) (it := S) (fun b o hb e => (s1.2 b hb).trans e) pS.2.1 fS.2.1 fS.2.2.2.1 fS.2.2.2.2.1 fS.2.2.2.2.2

theorem max_loop (hc : X.calm = true) (hr : Room (k + 1) X.A) (F : KeyFn X.prog X.w X.K X.mg X.base T k q H0 xs KeyOf) (stab : ∀ H H' i kv, Gr T H H' → KeyOf H i kv → KeyOf H' i kv) (cmp : KeyCmp X T H0 KeyOf .Gt better) (hS : ∀ H, Gr T H0 H → SqL X.K H l xs) (hIS : I ≠ S) (kw : List (Str × Value))
    (hR : ∀ H s' x u, Inv X pins σ H s' → Gr T H0 H → xs[bst better xs.length]? = some x → RelV x u → R (.ok (.ret u)) s') :
    ∀ (r j : Nat) (s : Shared) (H : Hp) (xb kV : V) (vb kb : Value) (c : Nat), xs.length - j = r → 1 ≤ j → j ≤ xs.length → Inv X pins σ H s → Gr T H0 H → FpOk X pins H I → FpOk X pins H S → s.heap.IsListIter I l j →
      s.heap.get? S = some (seqObj "list" #[vb, kb] c) → xs[bst better j]? = some xb → RelV xb vb → KeyOf H (bst better j) kV → RelV kV kb →
      codeAny (model X.prog X.w) X.A (.builtin "max.loop" ⟨[.ref I, .ref q, .ref S], kw⟩) R s := by
  have hname : (toString "max" ++ toString ".loop" : String) = "max.loop" := by decide
  intro r
  induction r with
  | zero =>
    intro j s H xb kV vb kb c hrj h1 hj J g fI fS hit hSo hxb rb hkb rk
    have hin : j = xs.length := by omega
    subst hin
    have hh : X.A.in1.handled = none := J.ok.hd hc
    obtain ⟨its, rv, pl, hz⟩ := J.list (hS H g)
    have hlI := ne_iter pl.isList hit
    have W := Walks.list (prog := X.prog) (w := X.w) (A := X.A.in1) hh I l hlI its.toArray
    have hsz : its.toArray.size = xs.length := by rw [List.size_toArray, rv.length]
    refine codeAny_builtin PySem.F.entry_max_loop ?_
    rw [Around.under_plainId PySem.F.plain_max_loop _]
    show wpAny _ X.A.in1 (seqItems? (.ref S) >>= _) _ _ _
    refine wpAny_bind (wpAny_seqItems hSo rfl ?_)
    show wpAny _ X.A.in1 (tryCatch (pyNext (.ref I)) _ >>= _) _ _ _
    refine wpAny_bind (wpAny_tryCatch (W.done _ _ _ ⟨by rw [hsz]; exact hit, pl.isList⟩ fun h' tk' hk' => ?_))
    have J1 : Inv X pins σ H { s with heap := h', toks := tk' } := J.turned (it := I) (fun b o hb e => hk' b o (by simpa using hb) e) fI.1 fI.2.1 fI.2.2.2.1 fI.2.2.2.2.1 fI.2.2.2.2.2
    have hS' : h'.get? S = some (seqObj "list" #[vb, kb] c) := hk' S _ (by simpa using hIS.symm) hSo
    have s1 := Heap.SameBut.update h' S (Obj.mapSeq fun _ => (#[] : Array Value))
    show wpAny _ X.A.in1 (updateSeq S (fun _ => #[]) >>= _) _ _ _
    refine wpAny_bind ?_
    refine wpAny_updateSeq hS' rfl (wpAny_bind (wpAny_letGo (wpAny_pure ?_)))
    exact hR H _ xb vb (J1.turned (t' := tk') (it := S) (fun b o hb e => (s1.2 b hb).trans e) fS.1 fS.2.1 fS.2.2.2.1 fS.2.2.2.2.1 fS.2.2.2.2.2) g hxb rb
  | succ r ih =>
    intro j s H xb kV vb kb c hrj h1 hj J g fI fS hit hSo hxb rb hkb rk
    have hlt : j < xs.length := by omega
    have hh : X.A.in1.handled = none := J.ok.hd hc
    obtain ⟨its, rv, pl, hz⟩ := J.list (hS H g)
    have hlI := ne_iter pl.isList hit
    have W := Walks.list (prog := X.prog) (w := X.w) (A := X.A.in1) hh I l hlI its.toArray
    have hsz : its.toArray.size = xs.length := by rw [List.size_toArray, rv.length]
    refine codeAny_builtin PySem.F.entry_max_loop ?_
    rw [Around.under_plainId PySem.F.plain_max_loop _]
    show wpAny _ X.A.in1 (seqItems? (.ref S) >>= _) _ _ _
    refine wpAny_bind (wpAny_seqItems hSo rfl ?_)
    show wpAny _ X.A.in1 (tryCatch (pyNext (.ref I)) _ >>= _) _ _ _
    refine wpAny_bind (wpAny_tryCatch (W.item j _ _ _ (by rw [hsz]; exact hlt) ⟨hit, pl.isList⟩ fun v h' tk' hP hst' hk' => ?_))
    have hv : its[j]? = some v := by simpa using hP
    obtain ⟨x, hx⟩ : ∃ x, xs[j]? = some x := ⟨_, List.getElem?_eq_getElem hlt⟩
    obtain ⟨v2, hv2, rxv⟩ := rv.get hx
    rw [hv] at hv2
    obtain rfl := Option.some.inj hv2
    obtain ⟨oI, hoI, hoc, hod⟩ := id hst'.1
    have J1 : Inv X pins σ H { s with heap := h', toks := tk' } := J.turned (it := I) (fun b o hb e => hk' b o (by simpa using hb) e) fI.1 fI.2.1 fI.2.2.2.1 fI.2.2.2.2.1 fI.2.2.2.2.2
    have hS' : h'.get? S = some (seqObj "list" #[vb, kb] c) := hk' S _ (by simpa using hIS.symm) hSo
    have J2 := J1.pinned (fp := [I, S]) (fun b hb => by
      rcases List.mem_cons.mp hb with rfl | hb
      · exact fI
      · rw [List.mem_singleton.mp hb]; exact fS) (fun b hb => by
      rcases List.mem_cons.mp hb with rfl | hb
      · exact ⟨oI, hoI, fun v z => by rw [hod] at z; cases z⟩
      · rw [List.mem_singleton.mp hb]; exact ⟨_, hS', fun v z => by cases z⟩)
    have mI : (I, oI) ∈ pinsAt [I, S] h' := mem_pinsAt (by simp) hoI
    have mS : (S, seqObj "list" #[vb, kb] c) ∈ pinsAt [I, S] h' := mem_pinsAt (by simp) hS'
    show wpAny _ X.A.in1 (tryCatch (holding [v] (call (.ref q) [v])) _ >>= _) _ _ _
    refine wpAny_bind (wpAny_tryCatch (wpAny_holding (key_call F hr J2 g hx rxv fun kv H2 ku s2 J3 g2 hk2 rk2 => ?_)))
    show wpAny _ X.A.in1 (tryCatch (holding [v, ku] (richCompare .Gt ku kb >>= _)) _ >>= _) _ _ _
    refine wpAny_bind (wpAny_tryCatch (wpAny_holding (wpAny_bind (cmp j (bst better j) _ _ s2 H2 kv kV ku kb _ _ J3 (g.trans g2) hk2 (stab _ _ _ _ g2 hkb) rk2 rk fun s3 J4 => ?_))))
    have pI := J4.pin (I, oI) (List.mem_append_right _ (List.mem_append_right _ mI))
    have pS := J4.pin (S, seqObj "list" #[vb, kb] c) (List.mem_append_right _ (List.mem_append_right _ mS))
    have J5 := J4.unpinned
    refine wpAny_bind (wpAny_holding (wpAny_truthy_bool ?_))
    refine wpAny_bind (wpAny_letGo (wpAny_pure ?_))
    have hb1 : bst better (j + 1) = if better j (bst better j) = true then j else bst better j := by
      show (if j = 0 then 0 else _) = _
      rw [if_neg (by omega)]
    by_cases hb' : better j (bst better j) = true
    · have s1 := Heap.SameBut.update s3.heap S (Obj.mapSeq fun _ => #[v, ku])
      obtain ⟨c2, hc2⟩ : ∃ c2, (s3.heap.update S (Obj.mapSeq fun _ => #[v, ku])).get? S = some (seqObj "list" #[v, ku] c2) := ⟨_, get?_update_seq pS.1 fun _ => #[v, ku]⟩
      simp only [hb', if_true]
      refine wpAny_bind ?_
      refine wpAny_updateSeq pS.1 rfl (wpAny_bind (wpAny_letGo ?_))
      rw [hname]
      rw [if_pos hb'] at hb1
      refine wpAny_pure ⟨plainId_quiet PySem.F.plain_max_loop _, ih (j + 1) _ H2 x kv v ku c2 (by omega) (by omega) hlt ?_ (g.trans g2) (fp_of fI pI.2.1) (fp_of fS pS.2.1) ⟨oI, (s1.2 I hIS).trans pI.1, hoc, hod⟩ hc2 (by rw [hb1]; exact hx) rxv (by rw [hb1]; exact hk2) rk2⟩
      exact J5.turned (t' := s3.toks) (it := S) (fun b o hb e => (s1.2 b hb).trans e) pS.2.1 fS.2.1 fS.2.2.2.1 fS.2.2.2.2.1 fS.2.2.2.2.2
    · have hb2 : better j (bst better j) = false := by simpa using hb'
      simp only [hb2, Bool.false_eq_true, if_false]
      refine wpAny_bind (wpAny_letGo ?_)
      rw [hname]
      rw [if_neg hb'] at hb1
      exact wpAny_pure ⟨plainId_quiet PySem.F.plain_max_loop _, ih (j + 1) s3 H2 xb kV vb kb c (by omega) (by omega) hlt J5 (g.trans g2) (fp_of fI pI.2.1) (fp_of fS pS.2.1) ⟨oI, pI.1, hoc, hod⟩ pS.1 (by rw [hb1]; exact hxb) rb (by rw [hb1]; exact stab _ _ _ _ g2 hkb) rk⟩
theorem max_start (hc : X.calm = true) (hr : Room (k + 1) X.A) (F : KeyFn X.prog X.w X.K X.mg X.base T k q H0 xs KeyOf) (stab : ∀ H H' i kv, Gr T H H' → KeyOf H i kv → KeyOf H' i kv) (cmp : KeyCmp X T H0 KeyOf .Gt better) (hS : ∀ H, Gr T H0 H → SqL X.K H l xs) (hne : 0 < xs.length) (kw : List (Str × Value))
    {s : Shared} (J : Inv X pins σ H0 s) (hIS : I ≠ S) (fI : FpOk X pins H0 I) (fS : FpOk X pins H0 S) (hit : s.heap.IsListIter I l 0) (hSo : s.heap.get? S = some (seqObj "list" #[] 0))
    (hR : ∀ H s' x u, Inv X pins σ H s' → Gr T H0 H → xs[bst better xs.length]? = some x → RelV x u → R (.ok (.ret u)) s') :
    codeAny (model X.prog X.w) X.A (.builtin "max.loop" ⟨[.ref I, .ref q, .ref S], kw⟩) R s := by
  have hname : (toString "max" ++ toString ".loop" : String) = "max.loop" := by decide
  have hh : X.A.in1.handled = none := J.ok.hd hc
  have g : Gr T H0 H0 := Gr.refl H0
  obtain ⟨its, rv, pl, hz⟩ := J.list (hS H0 g)
  have hlI := ne_iter pl.isList hit
  have W := Walks.list (prog := X.prog) (w := X.w) (A := X.A.in1) hh I l hlI its.toArray
  have hsz : its.toArray.size = xs.length := by rw [List.size_toArray, rv.length]
  refine codeAny_builtin PySem.F.entry_max_loop ?_
  rw [Around.under_plainId PySem.F.plain_max_loop _]
  show wpAny _ X.A.in1 (seqItems? (.ref S) >>= _) _ _ _
  refine wpAny_bind (wpAny_seqItems hSo rfl ?_)
  show wpAny _ X.A.in1 (tryCatch (pyNext (.ref I)) _ >>= _) _ _ _
  refine wpAny_bind (wpAny_tryCatch (W.item 0 _ _ _ (by rw [hsz]; exact hne) ⟨hit, pl.isList⟩ fun v h' tk' hP hst' hk' => ?_))
  have hv : its[0]? = some v := by simpa using hP
  obtain ⟨x, hx⟩ : ∃ x, xs[0]? = some x := ⟨_, List.getElem?_eq_getElem hne⟩
  obtain ⟨v2, hv2, rxv⟩ := rv.get hx
  rw [hv] at hv2
  obtain rfl := Option.some.inj hv2
  obtain ⟨oI, hoI, hoc, hod⟩ := id hst'.1
  have J1 : Inv X pins σ H0 { s with heap := h', toks := tk' } := J.turned (it := I) (fun b o hb e => hk' b o (by simpa using hb) e) fI.1 fI.2.1 fI.2.2.2.1 fI.2.2.2.2.1 fI.2.2.2.2.2
  have hS' : h'.get? S = some (seqObj "list" #[] 0) := hk' S _ (by simpa using hIS.symm) hSo
  have J2 := J1.pinned (fp := [I, S]) (fun b hb => by
    rcases List.mem_cons.mp hb with rfl | hb
    · exact fI
    · rw [List.mem_singleton.mp hb]; exact fS) (fun b hb => by
    rcases List.mem_cons.mp hb with rfl | hb
    · exact ⟨oI, hoI, fun v z => by rw [hod] at z; cases z⟩
    · rw [List.mem_singleton.mp hb]; exact ⟨_, hS', fun v z => by cases z⟩)
  have mI : (I, oI) ∈ pinsAt [I, S] h' := mem_pinsAt (by simp) hoI
  have mS : (S, seqObj "list" #[] 0) ∈ pinsAt [I, S] h' := mem_pinsAt (by simp) hS'
  show wpAny _ X.A.in1 (tryCatch (holding [v] (call (.ref q) [v])) _ >>= _) _ _ _
  refine wpAny_bind (wpAny_tryCatch (wpAny_holding (key_call F hr J2 g hx rxv fun kv H2 ku s2 J3 g2 hk2 rk2 => ?_)))
  have pI := J3.pin (I, oI) (List.mem_append_right _ (List.mem_append_right _ mI))
  have pS := J3.pin (S, seqObj "list" #[] 0) (List.mem_append_right _ (List.mem_append_right _ mS))
  have J5 := J3.unpinned
  have s1 := Heap.SameBut.update s2.heap S (Obj.mapSeq fun _ => #[v, ku])
  obtain ⟨c2, hc2⟩ : ∃ c2, (s2.heap.update S (Obj.mapSeq fun _ => #[v, ku])).get? S = some (seqObj "list" #[v, ku] c2) := ⟨_, get?_update_seq pS.1 fun _ => #[v, ku]⟩
  show wpAny _ X.A.in1 (updateSeq S (fun _ => #[v, ku]) >>= _) _ _ _
  refine wpAny_bind ?_
  refine wpAny_updateSeq pS.1 rfl ?_
  rw [hname]
  refine wpAny_pure ⟨plainId_quiet PySem.F.plain_max_loop _, max_loop hc hr F stab cmp hS hIS kw hR _ 1 _ H2 x kv v ku c2 rfl (Nat.le_refl _) hne ?_ g2 (fp_of fI pI.2.1) (fp_of fS pS.2.1) ⟨oI, (s1.2 I hIS).trans pI.1, hoc, hod⟩ hc2 hx rxv hk2 rk2⟩
  exact J5.turned (t' := s2.toks) (it := S) (fun b o hb e => (s1.2 b hb).trans e) pS.2.1 fS.2.1 fS.2.2.2.1 fS.2.2.2.2.1 fS.2.2.2.2.2

/-- NAME(xs, key = q) -/
theorem run_max (hc : X.calm = true) (hr : Room (k + 1) X.A) (F : KeyFn X.prog X.w X.K X.mg X.base T k q H0 xs KeyOf) (stab : ∀ H H' i kv, Gr T H H' → KeyOf H i kv → KeyOf H' i kv) (cmp : KeyCmp X T H0 KeyOf .Gt better) (hS : SqL X.K H0 l xs) (hne : 0 < xs.length)
    {s : Shared} (J : Inv X pins σ H0 s) {Q : Value → Shared → Prop} {E : Value → Shared → Prop} (hQ : ∀ H s' x u, Inv X pins σ H s' → Gr T H0 H → xs[bst better xs.length]? = some x → RelV x u → Q u s') :
    wpAny (model X.prog X.w) X.A (call (.builtin "max") [.ref l] [(Str.ofString "key", .ref q)]) Q E s := by
  have hname : (toString "max" ++ toString ".loop" : String) = "max.loop" := by decide
  obtain ⟨its, rv, pl, hz⟩ := J.list hS
  refine kmk_tree PySem.F.kind_max PySem.F.plain_max PySem.F.entry_max (args_max_key _ _) ?_
  show wpAny _ X.A.in1 (Builtin.Builtins.bindParams "max" ["key", "default"] 0 ⟨[], [(Str.ofString "key", .ref q)]⟩ >>= _) _ _ s
  refine wpAny_bind (wpAny_of_eq (show Builtin.Builtins.bindParams "max" ["key", "default"] 0 ⟨[], [(Str.ofString "key", .ref q)]⟩ = pure [some (.ref q), none] from rfl) ?_)
  refine wpAny_bind (wpAny_pure ?_)
  refine wpAny_bind (wpAny_pyIter_list pl.isList ?_)
  refine wpAny_bind (wpAny_newList ?_ (Nat.zero_le _))
  rw [hname]
  refine wpAny_pure ⟨plainId_quiet PySem.F.plain_max_loop _, ?_⟩
  have hsz : (s.heap.push { cls := .type "list_iterator", data := .fields #[.ref l, .int 0 0] }).objs.size = s.heap.objs.size + 1 := size_push' ..
  have J1 : Inv X pins σ H0 { s with heap := (s.heap.push { cls := .type "list_iterator", data := .fields #[.ref l, .int 0 0] }).push (seqObj "list" #[] 0) } := J.kept (t' := s.toks) fun b o e => Heap.get?_push_of_some _ (Heap.get?_push_of_some _ e)
  refine max_start (I := s.heap.objs.size) (S := (s.heap.push { cls := .type "list_iterator", data := .fields #[.ref l, .int 0 0] }).objs.size) hc hr F stab cmp (fun H g => g.seq hS) hne [] J1 (by rw [hsz]; exact Nat.ne_of_lt (Nat.lt_succ_self _)) ?_ ?_ ?_ ?_ fun H s' x u J' g' hx r => hQ H s' x u J' g' hx r
  · exact J.fpOk (Nat.le_refl _) (J.hok.fresh (Nat.le_refl _))
  · exact J.fpOk (by rw [hsz]; exact Nat.le_succ _) (J.hok.fresh (by rw [hsz]; exact Nat.le_succ _))
  · exact ⟨_, Heap.get?_push_of_some _ (Heap.get?_push_size _ rfl), rfl, rfl⟩
  · exact Heap.get?_push_size _ rfl
/-- min(xs, key = q, default = d) -/
theorem run_min (hc : X.calm = true) (hr : Room (k + 1) X.A) {dV : V} {d : Value} (rd : RelV dV d) (F : KeyFn X.prog X.w X.K X.mg X.base T k q H0 xs KeyOf) (stab : ∀ H H' i kv, Gr T H H' → KeyOf H i kv → KeyOf H' i kv) (cmp : KeyCmp X T H0 KeyOf .Lt better) (hS : SqL X.K H0 l xs)
    {s : Shared} (J : Inv X pins σ H0 s) {Q : Value → Shared → Prop} {E : Value → Shared → Prop} (hQ : ∀ H s' x u, Inv X pins σ H s' → Gr T H0 H → (xs[bst better xs.length]?).getD dV = x → RelV x u → Q u s') :
    wpAny (model X.prog X.w) X.A (call (.builtin "min") [.ref l] [(Str.ofString "key", .ref q), (Str.ofString "default", d)]) Q E s := by
  have hname : (toString "min" ++ toString ".loop" : String) = "min.loop" := by decide
  obtain ⟨its, rv, pl, hz⟩ := J.list hS
  refine kmk_tree PySem.F.kind_min PySem.F.plain_min PySem.F.entry_min (args_min_key_default _ _ _) ?_
  show wpAny _ X.A.in1 (Builtin.Builtins.bindParams "min" ["key", "default"] 0 ⟨[], [(Str.ofString "key", .ref q), (Str.ofString "default", d)]⟩ >>= _) _ _ s
  refine wpAny_bind (wpAny_of_eq (show Builtin.Builtins.bindParams "min" ["key", "default"] 0 ⟨[], [(Str.ofString "key", .ref q), (Str.ofString "default", d)]⟩ = pure [some (.ref q), some d] from rfl) ?_)
  refine wpAny_bind (wpAny_pure ?_)
  refine wpAny_bind (wpAny_pyIter_list pl.isList ?_)
  refine wpAny_bind (wpAny_newList ?_ (Nat.zero_le _))
  rw [hname]
  refine wpAny_pure ⟨plainId_quiet PySem.F.plain_min_loop _, ?_⟩
  have hsz : (s.heap.push { cls := .type "list_iterator", data := .fields #[.ref l, .int 0 0] }).objs.size = s.heap.objs.size + 1 := size_push' ..
  have J1 : Inv X pins σ H0 { s with heap := (s.heap.push { cls := .type "list_iterator", data := .fields #[.ref l, .int 0 0] }).push (seqObj "list" #[] 0) } := J.kept (t' := s.toks) fun b o e => Heap.get?_push_of_some _ (Heap.get?_push_of_some _ e)
  have fI : FpOk X pins H0 s.heap.objs.size := J.fpOk (Nat.le_refl _) (J.hok.fresh (Nat.le_refl _))
  have fS : FpOk X pins H0 (s.heap.push { cls := .type "list_iterator", data := .fields #[.ref l, .int 0 0] }).objs.size := J.fpOk (by rw [hsz]; exact Nat.le_succ _) (J.hok.fresh (by rw [hsz]; exact Nat.le_succ _))
  have hIS : s.heap.objs.size ≠ (s.heap.push { cls := .type "list_iterator", data := .fields #[.ref l, .int 0 0] }).objs.size := by rw [hsz]; exact Nat.ne_of_lt (Nat.lt_succ_self _)
  have hit : ((s.heap.push { cls := .type "list_iterator", data := .fields #[.ref l, .int 0 0] }).push (seqObj "list" #[] 0)).IsListIter s.heap.objs.size l 0 := ⟨_, Heap.get?_push_of_some _ (Heap.get?_push_size _ rfl), rfl, rfl⟩
  have hSo : ((s.heap.push { cls := .type "list_iterator", data := .fields #[.ref l, .int 0 0] }).push (seqObj "list" #[] 0)).get? (s.heap.push { cls := .type "list_iterator", data := .fields #[.ref l, .int 0 0] }).objs.size = some (seqObj "list" #[] 0) := Heap.get?_push_size _ rfl
  rcases Nat.eq_zero_or_pos xs.length with z | z
  · have hh : X.A.in1.handled = none := J.ok.hd hc
    obtain ⟨its1, rv1, pl1, _⟩ := J1.list hS
    have hlI := ne_iter pl1.isList hit
    have W := Walks.list (prog := X.prog) (w := X.w) (A := X.A.in1) hh _ l hlI its1.toArray
    have hsz1 : its1.toArray.size = 0 := by rw [List.size_toArray, ← rv1.length, z]
    refine codeAny_builtin PySem.F.entry_min_loop ?_
    rw [Around.under_plainId PySem.F.plain_min_loop _]
    show wpAny _ X.A.in1 (seqItems? (.ref _) >>= _) _ _ _
    refine wpAny_bind (wpAny_seqItems hSo rfl ?_)
    show wpAny _ X.A.in1 (tryCatch (pyNext (.ref _)) _ >>= _) _ _ _
    refine wpAny_bind (wpAny_tryCatch (W.done _ _ _ ⟨by rw [hsz1]; exact hit, pl1.isList⟩ fun h' tk' hk' => ?_))
    have J2 := J1.turned (h' := h') (t' := tk') (it := s.heap.objs.size) (fun b o hb e => hk' b o (by simpa using hb) e) fI.1 fI.2.1 fI.2.2.2.1 fI.2.2.2.2.1 fI.2.2.2.2.2
    refine wpAny_bind (wpAny_rule (wpAny_pure ?_))
    exact hQ H0 _ dV d J2 (Gr.refl H0) (by rw [List.length_eq_zero_iff.mp z]; rfl) rd
  · exact min_start (I := s.heap.objs.size) (S := (s.heap.push { cls := .type "list_iterator", data := .fields #[.ref l, .int 0 0] }).objs.size) hc hr F stab cmp (fun H g => g.seq hS) z _ J1 hIS fI fS hit hSo fun H s' x u J' g' hx r => hQ H s' x u J' g' (by rw [hx]; rfl) r
end

/-! ### as expressions -/
section
variable {X : Cx} {k : Nat} {p pos kpos : Pos} {e ke : Expr} {ta : TA} {tk : TA}
/-- max(e, key = ..) -/
def tMaxK (X : Cx) (k : Nat) (t tk : TA) : TE := fun σ H Q => t σ H fun vs H1 => tk σ H1 fun zs H2 => ∃ (T : List Tab) (l q : Addr) (xs : List V) (KeyOf : Hp → Nat → V → Prop) (better : Nat → Nat → Bool), vs = [.ref l] ∧ zs = [.ref q] ∧ SqL X.K H2 l xs ∧ 0 < xs.length ∧
  KeyFn X.prog X.w X.K X.mg X.base T k q H2 xs KeyOf ∧ (∀ H H' i kv, Gr T H H' → KeyOf H i kv → KeyOf H' i kv) ∧ KeyCmp X T H2 KeyOf .Gt better ∧ ∀ H' x, Gr T H2 H' → xs[bst better xs.length]? = some x → Q x H'
theorem pe_maxK (hc : X.calm = true) (hr : Room (k + 1) X.A) (hg : Gl X "max") (hm : X.mg "max" = none) (ha : PA X [e] ta) (hk : PK X [⟨some "key", ke, kpos⟩] tk)
    (hs : backTo pos (starEach [e] X.env) = (false, eval e X.env) :: backTo pos (starEach [] X.env) := by rfl) (hpl : (backTo pos (starEach [e] X.env)).any (·.1) = false := by rfl) :
    PE X (.Call (.Name "max" p) [e] [⟨some "key", ke, kpos⟩] pos) (tMaxK X k ta tk) := by
  intro pins s σ H Q I h
  refine wpAny_Call_Name_kw (ld_blt I hg hm boot_max ?_)
  refine callWith_kw (thn (ha pos pins s σ H _ I h) fun us s1 ⟨vs, H1, I1, r1, q1⟩ => thn (hk pos pins s1 σ H1 _ I1 q1) fun ws s2 ⟨zs, H2, I2, r2, T, l, q, xs, KeyOf, better, e1, e2, hS, hne, F, stab, cmp, hQ⟩ => ?_) hs hpl
  subst e1 e2
  obtain rfl := r1.ref1
  obtain rfl := r2.ref1
  exact run_max hc hr F stab cmp hS hne I2 fun H' s' x u I' g' hx r => ⟨x, H', I', r, hQ H' x g' hx⟩
/-- min(e, key = .., default = ..) -/
def tMinK (X : Cx) (k : Nat) (t tk : TA) : TE := fun σ H Q => t σ H fun vs H1 => tk σ H1 fun zs H2 => ∃ (T : List Tab) (l q : Addr) (d : V) (xs : List V) (KeyOf : Hp → Nat → V → Prop) (better : Nat → Nat → Bool), vs = [.ref l] ∧ zs = [.ref q, d] ∧ SqL X.K H2 l xs ∧
  KeyFn X.prog X.w X.K X.mg X.base T k q H2 xs KeyOf ∧ (∀ H H' i kv, Gr T H H' → KeyOf H i kv → KeyOf H' i kv) ∧ KeyCmp X T H2 KeyOf .Lt better ∧ ∀ H' x, Gr T H2 H' → (xs[bst better xs.length]?).getD d = x → Q x H'
theorem pe_minK {de : Expr} {kpos2 : Pos} (hc : X.calm = true) (hr : Room (k + 1) X.A) (hg : Gl X "min") (hm : X.mg "min" = none) (ha : PA X [e] ta) (hk : PK X [⟨some "key", ke, kpos⟩, ⟨some "default", de, kpos2⟩] tk)
    (hs : backTo pos (starEach [e] X.env) = (false, eval e X.env) :: backTo pos (starEach [] X.env) := by rfl) (hpl : (backTo pos (starEach [e] X.env)).any (·.1) = false := by rfl) :
    PE X (.Call (.Name "min" p) [e] [⟨some "key", ke, kpos⟩, ⟨some "default", de, kpos2⟩] pos) (tMinK X k ta tk) := by
  intro pins s σ H Q I h
  refine wpAny_Call_Name_kw (ld_blt I hg hm boot_min ?_)
  refine callWith_kw (thn (ha pos pins s σ H _ I h) fun us s1 ⟨vs, H1, I1, r1, q1⟩ => thn (hk pos pins s1 σ H1 _ I1 q1) fun ws s2 ⟨zs, H2, I2, r2, T, l, q, d, xs, KeyOf, better, e1, e2, hS, F, stab, cmp, hQ⟩ => ?_) hs hpl
  subst e1 e2
  obtain rfl := r1.ref1
  obtain ⟨w1, w2, rfl, rq, rd⟩ := Vals.two r2
  have rq : w1 = .ref q := rq
  subst rq
  exact run_min hc hr rd F stab cmp hS I2 fun H' s' x u I' g' hx r => ⟨x, H', I', r, hQ H' x g' hx⟩
end
/-! ### keys that are ints -/
def KeyInt (kf : Nat → Int) : Hp → Nat → V → Prop := fun _ i kv => kv = .int (kf i)
theorem keyInt_stab {T : List Tab} (kf : Nat → Int) : ∀ H H' i kv, Gr T H H' → KeyInt kf H i kv → KeyInt kf H' i kv := fun _ _ _ _ _ h => h
theorem keyInt_gt {X : Cx} {T : List Tab} {H0 : Hp} (kf : Nat → Int) : KeyCmp X T H0 (KeyInt kf) .Gt (fun i j => decide (kf i > kf j)) := by
  intro i j pins σ s H ki kj u v Q E I g hi hj ru rv h
  cases hi
  cases hj
  exact CmpOf.ints_gt (prog := X.prog) (w := X.w) (A := X.A.in1) (P := fun i v => ∃ t, v = .int (kf i) t) kf (fun i v h => h) i j _ _ _ _ _ ru rv (h s I)
end L2

end
section
set_option Elab.async false
set_option linter.all false
set_option maxRecDepth 100000
set_option maxHeartbeats 4000000
/-! a lambda by its body's reading; as a key -/
namespace L2
open PySem PySem.Spec PyProof.Rows
section
variable {T : List Tab} {H H1 : Hp} {K : PySem.W.Frag}
/-- the cells of a lambda stand -/
def Cl (H : Hp) (cs : List Addr) : Prop := ∀ c ∈ cs, ∃ o v, H c = some (fz o) ∧ o.data = .cell v
theorem Cl.gr {cs : List Addr} (h : Cl H cs) (g : Gr T H H1) : Cl H1 cs := fun c m => let ⟨o, v, h1, h2⟩ := h c m; ⟨o, v, g.fz h1, h2⟩
theorem hid_some {cs : List Addr} {b : Addr} {o : HO} (h : hid cs H b = some o) : H b = some o ∧ b ∉ cs := by
  by_cases m : b ∈ cs
  · rw [hid_in m] at h; cases h
  · rw [hid_out m] at h; exact ⟨h, m⟩
theorem hid_keep {cs : List Addr} (c : Cl H cs) {b : Addr} {o : HO} (h : H b = some o) (n : ∀ ob, o ≠ fz ob) : hid cs H b = some o := by
  rw [hid_out]
  · exact h
  · intro m
    obtain ⟨ob, v, e, _⟩ := c b m
    rw [h] at e
    exact n ob (Option.some.inj e)
theorem hid_seq {cs : List Addr} (c : Cl H cs) {a : Addr} {xs : List V} (h : SqL K H a xs) : SqL K (hid cs H) a xs := by
  rcases h with (h | ⟨o, h⟩) | h
  · exact .inl (.inl (hid_keep c h fun ob z => by cases z))
  · exact .inl (.inr ⟨o, hid_keep c h fun ob z => by cases z⟩)
  · exact .inr h
theorem hid_seqT {cs : List Addr} (c : Cl H cs) {a : Addr} {xs : List V} (h : SqT K H a xs) : SqT K (hid cs H) a xs := by
  rcases h with (h | ⟨o, h⟩) | h
  · exact .inl (.inl (hid_keep c h fun ob z => by cases z))
  · exact .inl (.inr ⟨o, hid_keep c h fun ob z => by cases z⟩)
  · exact .inr h
theorem shw_keep {cs : List (Addr × Obj)} (hc : ∀ q ∈ cs, H q.1 = none) {b : Addr} {o : HO} (h : H b = some o) : shw cs H b = some o := by
  rw [shw_out]
  · exact h
  · intro z
    obtain ⟨ob, _, h2⟩ := lookup_some_of z
    rw [hc _ h2] at h
    cases h
theorem same_shw {cs : List (Addr × Obj)} (hc : ∀ q ∈ cs, H q.1 = none) : Same H (shw cs H) := fun b o h => shw_keep hc h
theorem Gr.hide {cs : List Addr} (c : Cl H cs) (g : Gr T H H1) : Gr T (hid cs H) (hid cs H1) := by
  have c1 := c.gr g
  refine ⟨fun b o q n => ?_, fun b ps q => ?_, fun h => ?_⟩
  · obtain ⟨q1, m⟩ := hid_some q
    rw [hid_out m]
    exact g.keep b o q1 n
  · obtain ⟨q1, m⟩ := hid_some q
    rw [hid_out m]
    exact g.tl b ps q1
  · have h0 : TB T H := fun t m => (h t m).mono' fun b o q _ => (hid_some q).1
    exact (g.tb h0).hidden c1
end
/-- a lambda's promise: the reading of its body, the values from around given -/
def spLam (t : TE) (f : Addr) (o : Obj) (cdv : Value) (qual : Str) (cl : List (Str × Addr)) (fv ps : List Str) (ws : List V) : Sp := fun vs H Q _ => vs.length = ps.length ∧ LamAt H f o cdv qual cl fv ws ∧
  t ((vs ++ ws).map some) (hid (cl.map (·.2)) H) (fun v H' => (∀ c ∈ cl.map (·.2), H' c = none) → Q v (bck (cl.map (·.2)) H H'))
section
variable {P : Program} {w : World} {K : PySem.W.Frag} {mg : Str → Option Value} {base : Heap} {k : Nat} {f c : Addr} {name qual : Str} {params : Arguments} {body : Expr} {scope : Scope} {cl : List (Str × Addr)} {pm ct : Value} {ps fv : List Str} {t : TE} {ws : List V} {T : List Tab} {H : Hp}
theorem fn_lamT (S : LamScope ps fv scope) (C : CloOk cl fv)
    (hb : ∀ (A : Around) (outer : List Env) (s : Shared) (H : Hp), Room k (A.deeper (PySem.W.envX qual scope s.heap.objs.size f (.ref c) cl)) → PE (cxLam P w K mg base (ps ++ fv) qual scope f (.ref c) cl A outer s H) body t) :
    FnOk P w K mg base CX0 (k + 1) f (PySem.W.kla_fn name qual params body scope cl pm (.ref c) ct) ps (spLam t f (PySem.W.kla_obj name qual params body scope cl pm c ct) (.ref c) qual cl fv ps ws) := by
  refine fn_lam S C (fun vs H Q E h => h.1) fun A outer s H vs Q E hr h => ⟨ws, h.2.1, t, hb A outer s _ hr, h.2.2⟩
theorem LamAt.cells {o : Obj} {cdv : Value} (C : CloOk cl fv) (L : LamAt H f o cdv qual cl fv ws) : Cl H (cl.map (·.2)) := fun c m => by
  obtain ⟨x, hx⟩ := C.mem c m
  obtain ⟨i, hi⟩ := List.getElem?_of_mem (C.only x c hx)
  obtain ⟨c', o, u, w, h1, h2, h3, _⟩ := L.cell i x hi
  rw [hx] at h1
  cases h1
  exact ⟨o, some u, h2, h3⟩
theorem CodeAt.gr {H1 : Hp} {cdv : Value} (h : CodeAt H cdv qual) (g : Gr T H H1) : CodeAt H1 cdv qual := by
  obtain ⟨c, oc, vs, t, h1, h2, h3⟩ := h
  exact ⟨c, oc, vs, t, h1, g.fz h2, h3⟩
theorem CodeAt.same {H1 : Hp} {cdv : Value} (h : CodeAt H cdv qual) (g : Same H H1) : CodeAt H1 cdv qual := by
  obtain ⟨c, oc, vs, t, h1, h2, h3⟩ := h
  exact ⟨c, oc, vs, t, h1, g _ _ h2, h3⟩
theorem LamAt.gr {H1 : Hp} {o : Obj} {cdv : Value} (L : LamAt H f o cdv qual cl fv ws) (g : Gr T H H1) : LamAt H1 f o cdv qual cl fv ws :=
  ⟨g.fz L.obj, L.code.gr g, L.len, fun i x h => let ⟨c, o, u, w, h1, h2, h3⟩ := L.cell i x h; ⟨c, o, u, w, h1, g.fz h2, h3⟩⟩
/-- how a lambda without defaults binds -/
def LamBinds (params : Arguments) (ps : List Str) : Prop := ∀ (name qual : Str) (body : Expr) (scope : Scope) (cl : List (Str × Addr)) (pm cdv ct : Value) (us : List Value), us.length = ps.length → bindArgs (PySem.W.kla_fn name qual params body scope cl pm cdv ct) ⟨us, []⟩ = pure (ps.zip us)
/-- as a key: the reading gives each item's key -/
theorem key_lam {xs : List V} {KeyOf : Hp → Nat → V → Prop} (S : LamScope ps fv scope) (C : CloOk cl fv) (hp : ps.length = 1) (bb : LamBinds params ps) (L : LamAt H f (PySem.W.kla_obj name qual params body scope cl pm c ct) (.ref c) qual cl fv ws)
    (stab : ∀ H H' i kv, Gr T H H' → KeyOf H i kv → KeyOf H' i kv)
    (hb : ∀ (A : Around) (outer : List Env) (s : Shared) (H : Hp), Room k (A.deeper (PySem.W.envX qual scope s.heap.objs.size f (.ref c) cl)) → PE (cxLam P w K mg base (ps ++ fv) qual scope f (.ref c) cl A outer s H) body t)
    (ht : ∀ (i : Nat) (x : V), xs[i]? = some x → ∀ H1, Gr T (hid (cl.map (·.2)) H) H1 → ∀ Q : VK, (∀ kv H2, Gr T H1 H2 → (∀ Hb, (∀ b o, H2 b = some o → Hb b = some o) → KeyOf Hb i kv) → Q kv H2) → t ((x :: ws).map some) H1 Q) :
    KeyFn P w K mg base T (k + 1) f H xs KeyOf := by
  refine ⟨_, ps, _, _, fn_lamT (name := name) (params := params) (pm := pm) (ct := ct) (ws := ws) S C hb, fun s us hl => .of_eq (bb _ _ _ _ _ _ _ _ us hl), L.obj, fun i x hx H1 g Q hQ => ⟨hp.symm, L.gr g, ?_⟩⟩
  have c0 := L.cells C
  have c1 := c0.gr g
  refine ht i x hx _ (g.hide c0) _ fun kv H2 g2 hk hn => ?_
  refine hQ kv _ (g2.back c1 hn) (hk _ fun b o e => ?_)
  rw [bck_out]
  · exact e
  · intro m
    rw [hn b m] at e
    cases e
end
end L2

end
section
set_option Elab.async false
set_option linter.all false
set_option maxRecDepth 100000
set_option maxHeartbeats 4000000
/-! lists of ints, and pairs of an int and such a list: which is less -/
namespace L2
open PySem PyProof.Rows
def LtAt (A : Around) (s : Shared) (y x : Value) (b : Bool) : Prop :=
  ∀ (prog : Program) (w : World) (E : Value → Shared → Prop) (Q : Value → Shared → Prop), Q (.bool b) s → wpAny (model prog w) A (richCompare .Lt y x) Q E s
/-- by the first that differ -/
def lexG (e r : Nat → Bool) : Nat → Nat → Bool
  | 0, _ => false
  | k + 1, j => if e j = true then lexG e r k (j + 1) else r j
section
open PySem.SeqAt
open PySem.AutoSeq1 (wpAny_loadPart')
open PySem.MeetsSeq PySem.MeetsSeq2 PySem.MeetsSeq3
theorem tuple_ltG (l b : Addr) (items items2 : Array Value) (n n2 : Nat) (dd dd2 : Option Addr) (sl sl2 : Array (Option Value)) (hsz : items.size = items2.size) (e r : Nat → Bool) :
    Meets (Builtin.«tuple.__lt__» ⟨[.ref l, .ref b], []⟩)
      (fun A R s => s.heap.get? l = some { cls := .type "tuple", dict := dd, data := .seq items n, slots := sl } ∧ s.heap.get? b = some { cls := .type "tuple", dict := dd2, data := .seq items2 n2, slots := sl2 } ∧
        (∀ j (h1 : j < items.size) (h2 : j < items2.size), EqAt A.in1 s items[j] items2[j] (e j)) ∧ (∀ j (h1 : j < items.size) (h2 : j < items2.size), (∀ i, i < j → e i = true) → e j = false → LtAt A.in1 s items[j] items2[j] (r j)) ∧
        R (.ok (.ret (.bool (lexG e r items.size 0)))) s) :=
  .of_wp fun prog w A R s h => by
    obtain ⟨hp, g, d, tk, os⟩ := s; obtain ⟨hl, hb, he, hr, h⟩ := h
    have f2 := AutoSeq1.sub_tuple_tuple
    have hZ : (items.toList.zip items2.toList).length = items.size := by simp [hsz]
    wp_walk using wpAny_loadPart' hl, wpAny_loadPart' hb, wpAny_forIn_list _ (fun rest b s' => b.1 = none ∧ s' = ⟨hp, g, d, tk, os⟩ ∧ ∃ i, i ≤ items.size ∧ (∀ i', i' < i → e i' = true) ∧ rest = (items.toList.zip items2.toList).drop i ∧
      R (.ok (.ret (.bool (lexG e r (items.size - i) i)))) ⟨hp, g, d, tk, os⟩) _
    case turn =>
      rintro ⟨y, x⟩ rest b s' ⟨hb', rfl, i, hile, hpre, hz, hR⟩
      have hlt : i < (items.toList.zip items2.toList).length := by
        rcases Nat.lt_or_ge i (items.toList.zip items2.toList).length with h' | h'
        · exact h'
        · rw [List.drop_of_length_le h'] at hz; cases hz
      have h1 : i < items.size := hZ ▸ hlt
      have h2 : i < items2.size := hsz ▸ h1
      rw [List.drop_eq_getElem_cons hlt] at hz
      injection hz with hyx hrest
      have hy : y = items[i] := by have := congrArg Prod.fst hyx; simpa using this
      have hx : x = items2[i] := by have := congrArg Prod.snd hyx; simpa using this
      subst hy hx
      have hd : lexG e r (items.size - i) i = if e i = true then lexG e r (items.size - (i + 1)) (i + 1) else r i := by
        have : items.size - i = (items.size - (i + 1)) + 1 := by omega
        rw [this]; rfl
      rw [hd] at hR
      refine wpAny_bind (he i h1 h2 prog w _ _ ?_)
      cases hy : e i with
      | true =>
        rw [if_pos hy] at hR
        wp_walk
        exact ⟨rfl, rfl, i + 1, h1, fun i' hi' => (Nat.lt_or_eq_of_le (Nat.le_of_lt_succ hi')).elim (fun z => hpre i' z) fun z => by rw [z]; exact hy, hrest, hR⟩
      | false =>
        rw [if_neg (by rw [hy]; decide)] at hR
        have hri := hr i h1 h2 hpre hy prog w
        wp_walk using hri
        exact ⟨_, rfl, by simpa using hR⟩
    case fin =>
      rintro ⟨b1, b2⟩ s' ⟨hb', rfl, i, hile, hpre, hz, hR⟩
      simp only at hb'
      subst hb'
      have hge : items.size ≤ i := by
        rcases Nat.lt_or_ge i (items.toList.zip items2.toList).length with h' | h'
        · rw [List.drop_eq_getElem_cons h'] at hz; cases hz
        · exact hZ ▸ h'
      have z : items.size - i = 0 := by omega
      rw [z] at hR
      have hR : R (.ok (.ret (.bool false))) ⟨hp, g, d, tk, os⟩ := hR
      wp_walk
      exact ⟨_, rfl, by simpa [Builtin.Tuple.tupleCompareSizes, hsz] using hR⟩
    case h =>
      exact ⟨rfl, rfl, 0, Nat.zero_le _, fun i' hi' => absurd hi' (Nat.not_lt_zero _), rfl, by simpa using h⟩
theorem list_lt_loop (l b : Addr) (items items2 : Array Value) (n n2 : Nat) (dd dd2 : Option Addr) (sl sl2 : Array (Option Value)) (hsz : items.size = items2.size) (e r : Nat → Bool) (k : Nat) :
    ∀ i : Nat, items.size - i = k → Meets (Builtin.«list.__eq__.loop» ⟨[.ref l, .ref b, rawInt i, rawInt 0], []⟩)
      (fun A R s => s.heap.get? l = some { cls := .type "list", dict := dd, data := .seq items n, slots := sl } ∧ s.heap.get? b = some { cls := .type "list", dict := dd2, data := .seq items2 n2, slots := sl2 } ∧
        (∀ j (h1 : j < items.size) (h2 : j < items2.size), EqAt A.in1 s items[j] items2[j] (e j)) ∧ (∀ j (h1 : j < items.size) (h2 : j < items2.size), e j = false → LtAt A.in1 s items[j] items2[j] (r j)) ∧
        R (.ok (.ret (.bool (lexG e r k i)))) s) := by
  induction k with
  | zero =>
    intro i hk prog w A R s h
    obtain ⟨hp, g, d, tk, os⟩ := s; obtain ⟨hl, hb, he, hr, h⟩ := h
    wp_walk using wpAny_loadPart' hl, wpAny_loadPart' hb
    have hi1 : items[((i : Nat) : Int).toNat]? = none := by simp; omega
    have hi2 : items2[((i : Nat) : Int).toNat]? = none := by simp; omega
    rw [hi1, hi2]
    wp_walk using wpAny_loadPart' hl, wpAny_loadPart' hb
    show R (.ok (.ret (.bool (decide (items.size < items2.size))))) _
    rw [hsz, decide_eq_false (Nat.lt_irrefl _)]
    exact h
  | succ k ih =>
    intro i hk prog w A R s h
    obtain ⟨hp, g, d, tk, os⟩ := s; obtain ⟨hl, hb, he, hr, h⟩ := h
    wp_walk using wpAny_loadPart' hl, wpAny_loadPart' hb
    have hlt : i < items.size := by omega
    have hlt2 : i < items2.size := by omega
    have hi1 : items[((i : Nat) : Int).toNat]? = some items[i] := by simp [hlt]
    have hi2 : items2[((i : Nat) : Int).toNat]? = some items2[i] := by simp [hlt2]
    have hc : ((i : Int) + 1) = ((i + 1 : Nat) : Int) := by push_cast; rfl
    have h : R (.ok (.ret (.bool (if e i = true then lexG e r k (i + 1) else r i)))) ⟨hp, g, d, tk, os⟩ := h
    rw [hi1, hi2]
    refine wpAny_bind (he i hlt hlt2 prog w _ _ ?_)
    cases hb' : e i with
    | true =>
      rw [if_pos hb'] at h
      wp_walk
      rw [hc]
      exact ⟨plainId_quiet plain_eq_loop _, codeAny_builtin entry_eq_loop (by
        rw [Around.under_plainId plain_eq_loop _]
        exact ih (i + 1) (by omega) prog w A R _ ⟨hl, hb, he, hr, h⟩)⟩
    | false =>
      rw [if_neg (by rw [hb']; decide)] at h
      have hri := hr i hlt hlt2 hb' prog w
      wp_walk using wpAny_loadPart' hl, wpAny_loadPart' hb
      rw [hi1, hi2]
      wp_walk using hri
      simpa using h
theorem list_ltG (l b : Addr) (items items2 : Array Value) (n n2 : Nat) (dd dd2 : Option Addr) (sl sl2 : Array (Option Value)) (hsz : items.size = items2.size) (e r : Nat → Bool) :
    Meets (Builtin.«list.__lt__» ⟨[.ref l, .ref b], []⟩)
      (fun A R s => s.heap.get? l = some { cls := .type "list", dict := dd, data := .seq items n, slots := sl } ∧ s.heap.get? b = some { cls := .type "list", dict := dd2, data := .seq items2 n2, slots := sl2 } ∧
        (∀ j (h1 : j < items.size) (h2 : j < items2.size), EqAt A.in1 s items[j] items2[j] (e j)) ∧ (∀ j (h1 : j < items.size) (h2 : j < items2.size), e j = false → LtAt A.in1 s items[j] items2[j] (r j)) ∧
        R (.ok (.ret (.bool (lexG e r items.size 0)))) s) := by
  intro prog w A R s h
  obtain ⟨hp, g, d, tk, os⟩ := s; obtain ⟨hl, hb, he, hr, h⟩ := h
  have f3 := AutoSeq1.sub_list_list
  wp_walk using wpAny_loadPart' hl, wpAny_loadPart' hb
  exact ⟨plainId_quiet plain_eq_loop _, codeAny_builtin entry_eq_loop (by
    rw [Around.under_plainId plain_eq_loop _]
    exact list_lt_loop l b items items2 n n2 dd dd2 sl sl2 hsz e r _ 0 rfl prog w A R _ ⟨hl, hb, he, hr, h⟩)⟩
end
theorem LtAt.ints {A : Around} {s : Shared} (a : Int) (t : Tok) (c : Int) (u : Tok) : LtAt A s (.int a t) (.int c u) (decide (a < c)) := fun prog w E Q h => HT.rcLt_int A s a t c u prog w E Q h
theorem LtAt.lists {A : Around} {s : Shared} {l b : Addr} {items items2 : Array Value} {e r : Nat → Bool} (hl : s.heap.IsList l items) (hb : s.heap.IsList b items2) (hsz : items.size = items2.size) (hu : A.units < cLine)
    (he : ∀ j (h1 : j < items.size) (h2 : j < items2.size), SeqAt.EqAt A.in1 s items[j] items2[j] (e j)) (hr : ∀ j (h1 : j < items.size) (h2 : j < items2.size), e j = false → LtAt A.in1 s items[j] items2[j] (r j)) :
    LtAt A s (.ref l) (.ref b) (lexG e r items.size 0) := fun prog w E Q h => by
  obtain ⟨⟨cls, dd, data, sl⟩, ho, hc, n, hd⟩ := id hl
  obtain ⟨⟨cls2, dd2, data2, sl2⟩, ho2, hc2, n2, hd2⟩ := id hb
  simp only at hc hd hc2 hd2
  subst hc hd hc2 hd2
  exact richCompare_meets_room (op := .Lt) ⟨_, ho, rfl⟩ ⟨_, ho2, rfl⟩ PySem.F.slot_list_lt PySem.F.entry_list_lt (PySem.F.args_list_lt_2 _ _) (list_ltG l b items items2 n n2 dd dd2 sl sl2 hsz e r)
    ⟨ho, ho2, he, hr, show Value.bool (lexG e r items.size 0) ≠ Value.notImplemented ∧ Q (.bool (lexG e r items.size 0)) s from ⟨(fun x => nomatch x), h⟩⟩ hu
theorem LtAt.tuples {A : Around} {s : Shared} {l b : Addr} {items items2 : Array Value} {e r : Nat → Bool} (hl : s.heap.IsTuple l items) (hb : s.heap.IsTuple b items2) (hsz : items.size = items2.size) (hu : A.units < cLine)
    (he : ∀ j (h1 : j < items.size) (h2 : j < items2.size), SeqAt.EqAt A.in1 s items[j] items2[j] (e j)) (hr : ∀ j (h1 : j < items.size) (h2 : j < items2.size), (∀ i, i < j → e i = true) → e j = false → LtAt A.in1 s items[j] items2[j] (r j)) :
    LtAt A s (.ref l) (.ref b) (lexG e r items.size 0) := fun prog w E Q h => by
  obtain ⟨⟨cls, dd, data, sl⟩, ho, hc, n, hd⟩ := id hl
  obtain ⟨⟨cls2, dd2, data2, sl2⟩, ho2, hc2, n2, hd2⟩ := id hb
  simp only at hc hd hc2 hd2
  subst hc hd hc2 hd2
  exact richCompare_meets_room (op := .Lt) ⟨_, ho, rfl⟩ ⟨_, ho2, rfl⟩ PySem.F.slot_tuple_lt PySem.F.entry_tuple_lt (PySem.F.args_tuple_lt_2 _ _) (tuple_ltG l b items items2 n n2 dd dd2 sl sl2 hsz e r)
    ⟨ho, ho2, he, hr, show Value.bool (lexG e r items.size 0) ≠ Value.notImplemented ∧ Q (.bool (lexG e r items.size 0)) s from ⟨(fun x => nomatch x), h⟩⟩ hu
/-! ### rows by their length, then by the lesser number -/
def lexN : List Nat → List Nat → Bool
  | [], _ => false
  | _ :: _, [] => false
  | x :: xs, y :: ys => if x = y then lexN xs ys else decide (x < y)
def rowLt (a b : List Nat) : Bool := if a.length = b.length then lexN a b else decide (a.length < b.length)
theorem lexG_lexN : ∀ (a b : List Nat) (e r : Nat → Bool) (j : Nat), a.length = b.length → (∀ i, i < a.length → e (j + i) = decide (a.getD i 0 = b.getD i 0) ∧ r (j + i) = decide (a.getD i 0 < b.getD i 0)) → lexG e r a.length j = lexN a b
  | [], _, _, _, _, _, _ => rfl
  | x :: xs, [], _, _, _, h, _ => by simp at h
  | x :: xs, y :: ys, e, r, j, h, he => by
    have h0 := he 0 (by simp)
    show (if e j = true then lexG e r xs.length (j + 1) else r j) = if x = y then lexN xs ys else decide (x < y)
    have e0 : e j = decide (x = y) := h0.1
    have r0 : r j = decide (x < y) := h0.2
    rw [e0, r0, lexG_lexN xs ys e r (j + 1) (by simpa using h) fun i hi => by
      have := he (i + 1) (by simp; omega)
      have ej : j + 1 + i = j + (i + 1) := by omega
      rw [ej]
      exact this]
    by_cases z : x = y
    · rw [if_pos z, if_pos (decide_eq_true z)]
    · rw [if_neg z, if_neg (by rw [decide_eq_false z]; decide)]
end L2

end
section
/-! graphs: what is asked of one, and how many pairs are joined -/
namespace Gm
open Gg
theorem isGraph_iff (g : Graph) : isGraph g = true ↔ 1 ≤ g.length ∧ g.length ≤ 8 ∧ ∀ i, i < g.length → g.getD i 0 < 2 ^ g.length ∧ joined g i i = false ∧ ∀ j, j < i → joined g i j = joined g j i := by
  unfold isGraph MOST
  simp only [Bool.and_eq_true, decide_eq_true_eq, List.all_eq_true, List.mem_range, Bool.not_eq_true', beq_iff_eq]
  constructor
  · rintro ⟨h1, h2, h3⟩
    exact ⟨h1, h2, fun i hi => ⟨(h3 i hi).1, (h3 i hi).2.1, fun j hj => (h3 i hi).2.2 j (by omega)⟩⟩
  · rintro ⟨h1, h2, h3⟩
    refine ⟨h1, h2, fun i hi => ⟨(h3 i hi).1, (h3 i hi).2.1, fun j hj => ?_⟩⟩
    rcases Nat.lt_trichotomy i j with h | h | h
    · exact ((h3 j hj).2.2 i h).symm
    · rw [h]
    · exact (h3 i hi).2.2 j h
structure Ok (g : Graph) : Prop where
  pos : 1 ≤ g.length
  le : g.length ≤ 8
  lt : ∀ i, i < g.length → g.getD i 0 < 2 ^ g.length
  self : ∀ i, i < g.length → joined g i i = false
  sym : ∀ i j, i < g.length → j < g.length → joined g i j = joined g j i
theorem ok_of {g : Graph} (h : isGraph g = true) : Ok g := by
  obtain ⟨h1, h2, h3⟩ := (isGraph_iff g).mp h
  refine ⟨h1, h2, fun i hi => (h3 i hi).1, fun i hi => (h3 i hi).2.1, fun i j hi hj => ?_⟩
  rcases Nat.lt_trichotomy i j with h | h | h
  · exact ((h3 j hj).2.2 i h).symm
  · rw [h]
  · exact (h3 i hi).2.2 j h
/-- a node beyond the graph is joined with none -/
theorem joined_out {g : Graph} {i j : Nat} (h : g.length ≤ i) : joined g i j = false := by
  unfold joined
  rw [List.getD_eq_getElem?_getD, List.getElem?_eq_none h]
  exact Nat.zero_testBit j
theorem Ok.joined_lt {g : Graph} (o : Ok g) {i j : Nat} (h : joined g i j = true) : i < g.length ∧ j < g.length := by
  have h1 : i < g.length := by
    rcases Nat.lt_or_ge i g.length with q | q
    · exact q
    · rw [joined_out q] at h; cases h
  refine ⟨h1, ?_⟩
  rcases Nat.lt_or_ge j g.length with q | q
  · exact q
  · have h2 := o.lt i h1
    have h3 : g.getD i 0 < 2 ^ j := Nat.lt_of_lt_of_le h2 (Nat.pow_le_pow_right (by decide) q)
    unfold joined at h
    rw [Nat.testBit_lt_two_pow h3] at h
    cases h
theorem Ok.sym' {g : Graph} (o : Ok g) (i j : Nat) : joined g i j = joined g j i := by
  cases a : joined g i j with
  | true =>
    obtain ⟨h1, h2⟩ := o.joined_lt a
    rw [← o.sym i j h1 h2, a]
  | false =>
    cases b : joined g j i with
    | true =>
      obtain ⟨h1, h2⟩ := o.joined_lt b
      rw [← a, ← b, o.sym i j h2 h1]
    | false => rfl
theorem Ok.self' {g : Graph} (o : Ok g) (i : Nat) : joined g i i = false := by
  cases a : joined g i i with
  | false => rfl
  | true => rw [← a]; exact o.self i (o.joined_lt a).1
/-- all rows of two joined nodes -/
def jrows (g : Graph) : List Row := (nodes g).flatMap fun i => ((nodes g).filter fun j => joined g i j).map fun j => [i, j]
/-! ### counting -/
def cnt (p : Nat → Bool) (n : Nat) : Nat := ((List.range n).filter p).length
theorem cnt_succ (p : Nat → Bool) (n : Nat) : cnt p (n + 1) = cnt p n + (if p n = true then 1 else 0) := by
  unfold cnt
  rw [List.range_succ, List.filter_append, List.length_append]
  by_cases h : p n = true <;> simp [h]
def tot (f : Nat → Nat) : Nat → Nat
  | 0 => 0
  | n + 1 => tot f n + f n
theorem foldr_add (l : List Nat) : ∀ (z : Nat), l.foldr (fun a b => a + b) z = l.foldr (fun a b => a + b) 0 + z := by
  induction l with
  | nil => intro z; simp
  | cons a l ih => intro z; rw [List.foldr_cons, List.foldr_cons, ih z]; omega
theorem foldr_tot (f : Nat → Nat) : ∀ n, ((List.range n).map f).foldr (fun a b => a + b) 0 = tot f n
  | 0 => rfl
  | n + 1 => by
    rw [List.range_succ, List.map_append, List.foldr_append, List.map_cons, List.map_nil, List.foldr_cons, List.foldr_nil, foldr_add, foldr_tot f n]
    show _ = tot f n + f n
    omega
theorem len_flat {α : Type} (f : Nat → List α) : ∀ n, ((List.range n).flatMap f).length = tot (fun i => (f i).length) n
  | 0 => rfl
  | n + 1 => by
    rw [List.range_succ, List.flatMap_append, List.length_append, len_flat f n]
    show _ = tot (fun i => (f i).length) n + (f n).length
    simp
theorem tot_congr {f h : Nat → Nat} : ∀ n, (∀ i, i < n → f i = h i) → tot f n = tot h n
  | 0, _ => rfl
  | n + 1, e => by
    show tot f n + f n = tot h n + h n
    rw [tot_congr n fun i hi => e i (by omega), e n (by omega)]
theorem tot_add (f h : Nat → Nat) : ∀ n, tot (fun i => f i + h i) n = tot f n + tot h n
  | 0 => rfl
  | n + 1 => by
    show tot (fun i => f i + h i) n + (f n + h n) = (tot f n + f n) + (tot h n + h n)
    rw [tot_add f h n]; omega
theorem tot_ind (p : Nat → Bool) : ∀ n, tot (fun i => if p i = true then 1 else 0) n = cnt p n
  | 0 => rfl
  | n + 1 => by
    show tot _ n + _ = _
    rw [tot_ind p n, cnt_succ]
theorem cnt_congr {p q : Nat → Bool} (n : Nat) (h : ∀ i, i < n → p i = q i) : cnt p n = cnt q n := by
  unfold cnt
  congr 1
  exact List.filter_congr fun x hx => h x (List.mem_range.mp hx)
theorem twice (r : Nat → Nat → Bool) (n : Nat) (self : ∀ i, i < n → r i i = false) (sym : ∀ i j, i < n → j < n → r i j = r j i) :
    ∀ m, m ≤ n → tot (fun i => cnt (r i) m) m = 2 * tot (fun i => cnt (fun j => decide (i < j) && r i j) m) m
  | 0, _ => rfl
  | m + 1, h => by
    have ih := twice r n self sym m (by omega)
    show tot (fun i => cnt (r i) (m + 1)) m + cnt (r m) (m + 1) = 2 * (tot (fun i => cnt (fun j => decide (i < j) && r i j) (m + 1)) m + cnt (fun j => decide (m < j) && r m j) (m + 1))
    have e1 : tot (fun i => cnt (r i) (m + 1)) m = tot (fun i => cnt (r i) m) m + cnt (r m) m := by
      rw [tot_congr m (h := fun i => cnt (r i) m + if r m i = true then 1 else 0) fun i hi => by
        show cnt (r i) (m + 1) = _
        rw [cnt_succ, sym i m (by omega) (by omega)], tot_add, tot_ind]
    have e2 : tot (fun i => cnt (fun j => decide (i < j) && r i j) (m + 1)) m = tot (fun i => cnt (fun j => decide (i < j) && r i j) m) m + cnt (r m) m := by
      rw [tot_congr m (h := fun i => cnt (fun j => decide (i < j) && r i j) m + if r m i = true then 1 else 0) fun i hi => by
        show cnt _ (m + 1) = _
        rw [cnt_succ, sym i m (by omega) (by omega)]
        simp [hi], tot_add, tot_ind]
    have e3 : cnt (r m) (m + 1) = cnt (r m) m := by
      rw [cnt_succ, self m (by omega)]; simp
    have e4 : cnt (fun j => decide (m < j) && r m j) (m + 1) = 0 := by
      unfold cnt
      rw [List.length_eq_zero_iff, List.filter_eq_nil_iff]
      intro a ha
      have := List.mem_range.mp ha
      simp; intro q; omega
    rw [e1, e2, e3, e4, ih]
    omega
theorem jrows_len {g : Graph} (o : Ok g) : (jrows g).length = 2 * pairs g := by
  unfold jrows pairs nodes
  rw [len_flat, foldr_tot]
  have := twice (joined g) g.length o.self o.sym g.length (Nat.le_refl _)
  unfold cnt at this
  rw [← this]
  exact tot_congr _ fun i _ => by simp
theorem judge_eq (ns : List Int) : PyWrgood.judge ns = if isGraph (WrgoodNeutral.graph ns) = true then [0, (pairs (WrgoodNeutral.graph ns) : Int)] else [-1] := by
  show WrgoodNeutral.told (if isGraph (WrgoodNeutral.graph ns) = true then Wrgood.Answer.number (pairs (WrgoodNeutral.graph ns)) else .no (-1)) = _
  by_cases h : isGraph (WrgoodNeutral.graph ns) = true
  · rw [if_pos h, if_pos h]; rfl
  · rw [if_neg h, if_neg h]; rfl
end Gm

end
section
/-! the first row of choices, depth first -/
namespace Gm
open Gg
def dfs (p : Row → Nat → Bool) (ch : List Nat) (k : Nat) : Nat → Row → Option Row
  | 0, r => if r.length = k then some r else none
  | f + 1, r => if r.length = k then some r else ch.findSome? fun c => if p r c = true then dfs p ch k f (r ++ [c]) else none
/-- from a row that's begun -/
def dfrom (p : Row → Nat → Bool) (ch : List Nat) (k : Nat) (r : Row) : Option Row := dfs p ch k (k - r.length) r
def kids (p : Row → Nat → Bool) (ch : List Nat) (r : Row) : List Row := (ch.filter (p r)).map fun c => r ++ [c]
theorem find_filter {α β : Type} (q : α → Bool) (f : α → Option β) : ∀ l : List α, (l.findSome? fun x => if q x = true then f x else none) = (l.filter q).findSome? f
  | [] => rfl
  | x :: l => by
    rw [List.findSome?_cons]
    cases e : q x with
    | true =>
      rw [List.filter_cons_of_pos e, List.findSome?_cons, if_pos rfl]
      cases f x with
      | some y => rfl
      | none => exact find_filter q f l
    | false =>
      rw [List.filter_cons_of_neg (by rw [e]; decide)]
      simpa using find_filter q f l
theorem dfrom_end {p : Row → Nat → Bool} {ch : List Nat} {k : Nat} {r : Row} (h : r.length = k) : dfrom p ch k r = some r := by
  unfold dfrom
  have : k - r.length = 0 := by omega
  rw [this]
  unfold dfs
  rw [if_pos h]
theorem dfrom_step {p : Row → Nat → Bool} {ch : List Nat} {k : Nat} {r : Row} (h : r.length < k) : dfrom p ch k r = (kids p ch r).findSome? (dfrom p ch k) := by
  unfold dfrom kids
  obtain ⟨f, hf⟩ : ∃ f, k - r.length = f + 1 := ⟨k - r.length - 1, by omega⟩
  rw [hf]
  have e : dfs p ch k (f + 1) r = if r.length = k then some r else ch.findSome? fun c => if p r c = true then dfs p ch k f (r ++ [c]) else none := rfl
  rw [e, if_neg (by omega), find_filter (p r) fun c => dfs p ch k f (r ++ [c]), List.findSome?_map]
  congr 1
  funext c
  show _ = dfs p ch k (k - (r ++ [c]).length) (r ++ [c])
  have : k - (r ++ [c]).length = f := by rw [List.length_append]; simp; omega
  rw [this]
/-- what a stack still comes to, its last first -/
def stack (p : Row → Nat → Bool) (ch : List Nat) (k : Nat) (st : List Row) : Option Row := st.reverse.findSome? (dfrom p ch k)
theorem stack_end {p : Row → Nat → Bool} {ch : List Nat} {k : Nat} {st : List Row} {r : Row} (h : r.length = k) : stack p ch k (st ++ [r]) = some r := by
  unfold stack
  rw [List.reverse_append, List.reverse_singleton, List.singleton_append, List.findSome?_cons, dfrom_end h]
theorem stack_step {p : Row → Nat → Bool} {ch : List Nat} {k : Nat} {st : List Row} {r : Row} (h : r.length < k) : stack p ch k (st ++ (kids p ch r).reverse) = stack p ch k (st ++ [r]) := by
  unfold stack
  rw [List.reverse_append, List.reverse_reverse, List.reverse_append, List.reverse_singleton, List.singleton_append, List.findSome?_append, List.findSome?_cons, dfrom_step h]
  cases (kids p ch r).findSome? (dfrom p ch k) with
  | some _ => rfl
  | none => rfl
/-- a tree's size at most -/
def tree (b : Nat) : Nat → Nat
  | 0 => 1
  | d + 1 => 1 + b * tree b d
def load (b k : Nat) : List Row → Nat
  | [] => 0
  | r :: st => tree b (k - r.length) + load b k st
theorem load_append (b k : Nat) : ∀ s t : List Row, load b k (s ++ t) = load b k s + load b k t
  | [], t => by show load b k t = 0 + load b k t; omega
  | r :: s, t => by
    show tree b (k - r.length) + load b k (s ++ t) = tree b (k - r.length) + load b k s + load b k t
    rw [load_append b k s t]; omega
theorem load_all {b k m : Nat} : ∀ {s : List Row}, (∀ r ∈ s, tree b (k - r.length) ≤ m) → load b k s ≤ s.length * m
  | [], _ => Nat.zero_le _
  | r :: s, h => by
    have h1 := h r List.mem_cons_self
    have h2 := load_all (s := s) fun r hr => h r (List.mem_cons_of_mem _ hr)
    show tree b (k - r.length) + load b k s ≤ (s.length + 1) * m
    rw [Nat.succ_mul]
    omega
theorem load_step {p : Row → Nat → Bool} {ch : List Nat} {k : Nat} {st : List Row} {r : Row} (h : r.length < k) : load ch.length k (st ++ (kids p ch r).reverse) < load ch.length k (st ++ [r]) := by
  rw [load_append, load_append]
  show _ < load ch.length k st + (tree ch.length (k - r.length) + 0)
  obtain ⟨f, hf⟩ : ∃ f, k - r.length = f + 1 := ⟨k - r.length - 1, by omega⟩
  have h1 : load ch.length k (kids p ch r).reverse ≤ (kids p ch r).reverse.length * tree ch.length f := by
    refine load_all fun q hq => ?_
    rw [List.mem_reverse] at hq
    obtain ⟨c, _, rfl⟩ := List.mem_map.mp hq
    rw [List.length_append]
    have : k - (r.length + [c].length) = f := by simp; omega
    rw [this]
    exact Nat.le_refl _
  have h2 : (kids p ch r).reverse.length ≤ ch.length := by
    rw [List.length_reverse]
    unfold kids
    rw [List.length_map]
    exact List.length_filter_le _ _
  have h3 := Nat.mul_le_mul_right (tree ch.length f) h2
  rw [hf]
  show _ < load ch.length k st + (1 + ch.length * tree ch.length f + 0)
  omega
/-- each choice is one, and fits those ahead of it -/
def Built (p : Row → Nat → Bool) (ch : List Nat) (r : Row) : Prop := ∀ i v, r[i]? = some v → v ∈ ch ∧ p (r.take i) v = true
theorem built_nil (p : Row → Nat → Bool) (ch : List Nat) : Built p ch [] := fun i v h => by simp at h
theorem built_snoc {p : Row → Nat → Bool} {ch : List Nat} {r : Row} {c : Nat} (h : Built p ch r) (hc : c ∈ ch) (hp : p r c = true) : Built p ch (r ++ [c]) := fun i v e => by
  by_cases hi : i < r.length
  · rw [List.getElem?_append_left hi] at e
    rw [List.take_append_of_le_length (by omega)]
    exact h i v e
  · rw [List.getElem?_append_right (by omega)] at e
    by_cases z : i - r.length = 0
    · rw [z] at e
      have e : c = v := by simpa using e
      subst e
      have : i = r.length := by omega
      rw [this, List.take_append_of_le_length (by omega), List.take_length]
      exact ⟨hc, hp⟩
    · obtain ⟨n, hn⟩ : ∃ n, i - r.length = n + 1 := ⟨i - r.length - 1, by omega⟩
      rw [hn] at e
      simp at e
theorem Built.mem {p : Row → Nat → Bool} {ch : List Nat} {r : Row} (h : Built p ch r) {v : Nat} (hv : v ∈ r) : v ∈ ch := by
  obtain ⟨i, hi⟩ := List.getElem?_of_mem hv
  exact (h i v hi).1
end Gm

end
section
/-! sets of nodes as numbers -/
namespace Gm
open Gg
theorem setOf_bit (l : Row) (v : Nat) : (setOf l).testBit v = l.contains v := by
  induction l with
  | nil => simp [setOf]
  | cons x l ih =>
    have e : setOf (x :: l) = setOf l ||| 2 ^ x := rfl
    rw [e, Nat.testBit_or, ih, Nat.testBit_two_pow, List.contains_cons, Bool.or_comm]
    congr 1
    by_cases h : x = v
    · subst h; simp
    · have h' : v ≠ x := fun z => h z.symm
      simp [h, h']
theorem setOf_lt {l : Row} {n : Nat} (h : ∀ u ∈ l, u < n) : setOf l < 2 ^ n := by
  induction l with
  | nil => exact Nat.two_pow_pos n
  | cons x l ih =>
    have e : setOf (x :: l) = setOf l ||| 2 ^ x := rfl
    rw [e]
    exact Nat.or_lt_two_pow (ih fun u hu => h u (List.mem_cons_of_mem _ hu)) (Nat.pow_lt_pow_right (by decide) (h x List.mem_cons_self))
theorem bits_eq {a b : Nat} (h : ∀ v, a.testBit v = b.testBit v) : a = b := Nat.eq_of_testBit_eq h
theorem bit_lt {s n v : Nat} (h : s < 2 ^ n) (q : s.testBit v = true) : v < n := by
  rcases Nat.lt_or_ge v n with z | z
  · exact z
  · rw [Nat.testBit_lt_two_pow (Nat.lt_of_lt_of_le h (Nat.pow_le_pow_right (by decide) z))] at q
    cases q
theorem mem_members {g : Graph} {s v : Nat} : v ∈ members g s ↔ v < g.length ∧ s.testBit v = true := by
  unfold members nodes isIn
  rw [List.mem_filter, List.mem_range]
theorem setOf_members {g : Graph} {s : Nat} (h : s < 2 ^ g.length) : setOf (members g s) = s := bits_eq fun v => by
  rw [setOf_bit]
  by_cases q : s.testBit v = true
  · rw [q]
    simpa using mem_members.mpr ⟨bit_lt h q, q⟩
  · have : s.testBit v = false := by simpa using q
    rw [this]
    cases e : (members g s).contains v with
    | false => rfl
    | true =>
      have := (mem_members.mp (by simpa using e)).2
      exact absurd this q
theorem mem_sets {g : Graph} {s : Nat} : s ∈ sets g ↔ s < 2 ^ g.length := by unfold sets; rw [List.mem_range]
theorem zero_iff {s n : Nat} (h : s < 2 ^ n) : s = 0 ↔ ∀ v, v < n → s.testBit v = false := by
  constructor
  · intro e v _; rw [e]; exact Nat.zero_testBit v
  · intro e
    refine bits_eq fun v => ?_
    rw [Nat.zero_testBit]
    rcases Nat.lt_or_ge v n with q | q
    · exact e v q
    · exact Nat.testBit_lt_two_pow (Nat.lt_of_lt_of_le h (Nat.pow_le_pow_right (by decide) q))
/-- what's not joined -/
theorem turned_len (g : Graph) : (turned g).length = g.length := by unfold turned nodes; simp
theorem turned_joined {g : Graph} {i j : Nat} (hi : i < g.length) (hj : j < g.length) : joined (turned g) i j = (i != j && !joined g i j) := by
  have e : (turned g).getD i 0 = setOf ((List.range g.length).filter (fun j => i != j && !joined g i j)) := by
    unfold turned nodes
    rw [List.getD_eq_getElem?_getD, List.getElem?_map, List.getElem?_range hi]; rfl
  have e0 : joined (turned g) i j = ((turned g).getD i 0).testBit j := rfl
  rw [e0, e, setOf_bit]
  by_cases q : (i != j && !joined g i j) = true
  · rw [q]
    simpa [List.mem_filter, List.mem_range, hj] using q
  · have q' : (i != j && !joined g i j) = false := by simpa using q
    rw [q']
    cases z : (List.filter (fun j => i != j && !joined g i j) (List.range g.length)).contains j with
    | false => rfl
    | true =>
      have := (List.mem_filter.mp (by simpa using z : j ∈ List.filter (fun j => i != j && !joined g i j) (List.range g.length))).2
      exact absurd this q
theorem turned_ok {g : Graph} (o : Ok g) : Ok (turned g) := by
  have hl := turned_len g
  refine ⟨by rw [hl]; exact o.pos, by rw [hl]; exact o.le, fun i hi => ?_, fun i hi => ?_, fun i j hi hj => ?_⟩
  · rw [hl] at hi ⊢
    unfold turned nodes
    rw [List.getD_eq_getElem?_getD, List.getElem?_map, List.getElem?_range hi]
    exact setOf_lt fun u hu => List.mem_range.mp (List.mem_filter.mp hu).1
  · rw [hl] at hi
    rw [turned_joined hi hi]; simp
  · rw [hl] at hi hj
    rw [turned_joined hi hj, turned_joined hj hi, o.sym' i j]
    congr 1
    exact bne_comm
/-- a graph is told by which are joined -/
theorem getD_bits {g : Graph} (o : Ok g) {i s : Nat} (hi : i < g.length) (hs : s < 2 ^ g.length) (h : ∀ j, j < g.length → s.testBit j = joined g i j) : s = g.getD i 0 := bits_eq fun j => by
  rcases Nat.lt_or_ge j g.length with q | q
  · exact h j q
  · rw [Nat.testBit_lt_two_pow (Nat.lt_of_lt_of_le hs (Nat.pow_le_pow_right (by decide) q)), Nat.testBit_lt_two_pow (Nat.lt_of_lt_of_le (o.lt i hi) (Nat.pow_le_pow_right (by decide) q))]
end Gm

end
section
/-! sets as numbers: sums, what's not joined, a part -/
namespace Gm
open Gg
theorem or_add : ∀ (n a b : Nat), a ≤ n → (∀ v, a.testBit v = true → b.testBit v = false) → a + b = a ||| b
  | 0, a, b, h, _ => by
    have : a = 0 := by omega
    subst this; simp
  | n + 1, a, b, h, d => by
    rcases Nat.eq_zero_or_pos a with z | z
    · subst z; simp
    have ih := or_add n (a / 2) (b / 2) (by omega) (fun v hv => by
      rw [Nat.testBit_div_two] at hv ⊢
      exact d _ hv)
    have e2 : (a ||| b) / 2 = a / 2 ||| b / 2 := Nat.or_div_two
    have m : (a ||| b) % 2 = 1 ↔ a % 2 = 1 ∨ b % 2 = 1 := Nat.or_mod_two_eq_one
    have q : ¬ (a % 2 = 1 ∧ b % 2 = 1) := fun ⟨h1, h2⟩ => by
      have := d 0 (Nat.mod_two_eq_one_iff_testBit_zero.mp h1)
      rw [Nat.mod_two_eq_one_iff_testBit_zero.mp h2] at this
      cases this
    have z2 : (a ||| b) % 2 = a % 2 + b % 2 := by
      have h1 := Nat.mod_lt a (show 0 < 2 by decide)
      have h2 := Nat.mod_lt b (show 0 < 2 by decide)
      have h3 := Nat.mod_lt (a ||| b) (show 0 < 2 by decide)
      by_cases ha : a % 2 = 1 <;> by_cases hb : b % 2 = 1
      · exact absurd ⟨ha, hb⟩ q
      · have := m.mpr (.inl ha); omega
      · have := m.mpr (.inr hb); omega
      · have : ¬ (a ||| b) % 2 = 1 := fun z => (m.mp z).elim ha hb
        omega
    omega
/-- the sum of a row's bits -/
theorem sum_bits : ∀ {l : Row}, l.Nodup → (l.map fun v => 2 ^ v).foldr (fun a b => a + b) 0 = setOf l
  | [], _ => rfl
  | x :: l, h => by
    have h' := List.nodup_cons.mp h
    rw [List.map_cons, List.foldr_cons, sum_bits h'.2]
    have e : setOf (x :: l) = setOf l ||| 2 ^ x := rfl
    rw [e, Nat.or_comm]
    refine or_add _ _ _ (Nat.le_refl _) fun v hv => ?_
    rw [Nat.testBit_two_pow] at hv
    have hv := of_decide_eq_true hv
    subst hv
    rw [setOf_bit]
    cases z : l.contains x with
    | false => rfl
    | true => exact absurd (by simpa using z) h'.1
theorem turned_getD {g : Graph} {i : Nat} (hi : i < g.length) : (turned g).getD i 0 = setOf ((List.range g.length).filter (fun j => i != j && !joined g i j)) := by
  unfold turned nodes
  rw [List.getD_eq_getElem?_getD, List.getElem?_map, List.getElem?_range hi]; rfl
theorem turned_sum {g : Graph} (o : Ok g) {i : Nat} (hi : i < g.length) : 2 ^ i + g.getD i 0 + (turned g).getD i 0 = 2 ^ g.length - 1 := by
  have to := turned_ok o
  have tl := turned_len g
  have h1 : 2 ^ i + g.getD i 0 = 2 ^ i ||| g.getD i 0 := by
    refine or_add _ _ _ (Nat.le_refl _) fun v hv => ?_
    rw [Nat.testBit_two_pow] at hv
    have hv := of_decide_eq_true hv
    subst hv
    exact o.self i hi
  have h2 : (2 ^ i ||| g.getD i 0) + (turned g).getD i 0 = (2 ^ i ||| g.getD i 0) ||| (turned g).getD i 0 := by
    refine or_add _ _ _ (Nat.le_refl _) fun v hv => ?_
    show joined (turned g) i v = false
    rw [Nat.testBit_or, Nat.testBit_two_pow, Bool.or_eq_true] at hv
    have hv' : v < g.length := by
      rcases hv with q | q
      · have := of_decide_eq_true q; omega
      · exact (o.joined_lt q).2
    rw [turned_joined hi hv']
    rcases hv with q | q
    · have := of_decide_eq_true q; simp [this]
    · have q : joined g i v = true := q
      simp [q]
  rw [h1, h2]
  refine bits_eq fun v => ?_
  rw [Nat.testBit_or, Nat.testBit_or, Nat.testBit_two_pow, Nat.testBit_two_pow_sub_one]
  show ((decide (i = v) || joined g i v) || joined (turned g) i v) = decide (v < g.length)
  by_cases hv : v < g.length
  · rw [turned_joined hi hv, decide_eq_true hv]
    by_cases e : i = v
    · simp [e]
    · cases joined g i v <;> simp [e]
  · rw [decide_eq_false hv]
    have a1 : joined g i v = false := by
      cases z : joined g i v with
      | false => rfl
      | true => exact absurd (o.joined_lt z).2 hv
    have a2 : joined (turned g) i v = false := by
      cases z : joined (turned g) i v with
      | false => rfl
      | true => exact absurd (tl ▸ (to.joined_lt z).2) hv
    rw [a1, a2, decide_eq_false (by omega)]; rfl
theorem turned_int {g : Graph} (o : Ok g) {i : Nat} (hi : i < g.length) : ((2 : Int) ^ g.length - 1 - 2 ^ i - (g.getD i 0 : Nat)) = (((turned g).getD i 0 : Nat) : Int) := by
  have h := turned_sum o hi
  have p : 0 < 2 ^ g.length := Nat.two_pow_pos _
  have h' : 2 ^ i + g.getD i 0 + (turned g).getD i 0 + 1 = 2 ^ g.length := by omega
  have e : (((2 ^ g.length : Nat)) : Int) = (2 : Int) ^ g.length := by rw [Int.natCast_pow]; rfl
  have e2 : (((2 ^ i : Nat)) : Int) = (2 : Int) ^ i := by rw [Int.natCast_pow]; rfl
  rw [← e, ← e2]
  omega
theorem turned_map (g : Graph) : turned g = (List.range g.length).map fun i => (turned g).getD i 0 := by
  apply List.ext_getElem
  · simp [turned_len]
  · intro i h h'
    rw [List.getElem_map, List.getElem_range, List.getD_eq_getElem?_getD, List.getElem?_eq_getElem h]; rfl
theorem turned_eq (ns : List Int) : PyWrgood.turned ns = if isGraph (WrgoodNeutral.graph ns) = true then 0 :: (turned (WrgoodNeutral.graph ns)).map (fun (k : Nat) => (k : Int)) else [-1] := by
  show WrgoodNeutral.told (if isGraph (WrgoodNeutral.graph ns) = true then Wrgood.Answer.row (turned (WrgoodNeutral.graph ns)) else .no (-1)) = _
  by_cases h : isGraph (WrgoodNeutral.graph ns) = true
  · rw [if_pos h, if_pos h]; rfl
  · rw [if_neg h, if_neg h]; rfl
/-- the nodes of a set of this graph are those of the first eight -/
theorem members_eight {g : Graph} {s : Nat} (hg : g.length ≤ 8) (hs : s < 2 ^ g.length) : (List.range 8).filter (fun v => s.testBit v) = members g s := by
  have e : List.range 8 = List.range g.length ++ (List.range (8 - g.length)).map (g.length + ·) := by
    rw [← List.range_add]; congr 1; omega
  rw [e, List.filter_append]
  have z : ((List.range (8 - g.length)).map (g.length + ·)).filter (fun v => s.testBit v) = [] := by
    rw [List.filter_eq_nil_iff]
    intro a ha
    obtain ⟨k, _, rfl⟩ := List.mem_map.mp ha
    intro z
    have := bit_lt hs z
    omega
  rw [z, List.append_nil]
  rfl
theorem part_eq (s : Int) (hs : 0 ≤ s) (ns : List Int) : PyWrgood.part s ns = if isGraph (WrgoodNeutral.graph ns) = true then (if s.toNat = 0 ∨ 2 ^ (WrgoodNeutral.graph ns).length ≤ s.toNat then [-2] else 0 :: (part (WrgoodNeutral.graph ns) s.toNat).map (fun (k : Nat) => (k : Int))) else [-1] := by
  show WrgoodNeutral.told (if isGraph (WrgoodNeutral.graph ns) = true then (if s.toNat = 0 ∨ 2 ^ (WrgoodNeutral.graph ns).length ≤ s.toNat then Wrgood.Answer.no (-2) else .row (part (WrgoodNeutral.graph ns) s.toNat)) else .no (-1)) = _
  by_cases h : isGraph (WrgoodNeutral.graph ns) = true
  · rw [if_pos h, if_pos h]
    by_cases h2 : s.toNat = 0 ∨ 2 ^ (WrgoodNeutral.graph ns).length ≤ s.toNat
    · rw [if_pos h2, if_pos h2]; rfl
    · rw [if_neg h2, if_neg h2]; rfl
  · rw [if_neg h, if_neg h]; rfl
end Gm

end
section
/-! cliques as the program asks for them -/
namespace Gm
open Gg
/-- within: every bit of s is in t -/
theorem and_eq_iff (t s : Nat) : t &&& s = s ↔ ∀ v, s.testBit v = true → t.testBit v = true := by
  constructor
  · intro h v hv
    have := congrArg (fun x => x.testBit v) h
    simp only [Nat.testBit_and] at this
    rw [hv, Bool.and_true] at this
    exact this
  · intro h
    refine bits_eq fun v => ?_
    rw [Nat.testBit_and]
    cases e : s.testBit v with
    | false => simp
    | true => rw [h v e]; rfl
def cliqueP (g : Graph) (s : Nat) : Bool := (members g s).all fun v => decide ((g.getD v 0 ||| 2 ^ v) &&& s = s)
theorem cliqueP_eq {g : Graph} {s : Nat} (hs : s < 2 ^ g.length) : (s != 0 && cliqueP g s) = isClique g s := by
  unfold cliqueP isClique
  congr 1
  rw [Bool.eq_iff_iff, List.all_eq_true, List.all_eq_true]
  refine forall_congr' fun a => forall_congr' fun ha => ?_
  rw [decide_eq_true_eq, and_eq_iff, List.all_eq_true]
  constructor
  · intro h b hb
    have := h b (mem_members.mp hb).2
    rw [Nat.testBit_or, Nat.testBit_two_pow, Bool.or_eq_true] at this
    rw [Bool.or_eq_true]
    rcases this with q | q
    · exact .inr q
    · exact .inl (beq_iff_eq.mpr (of_decide_eq_true q))
  · intro h v hv
    have hb := h v (mem_members.mpr ⟨bit_lt hs hv, hv⟩)
    rw [Nat.testBit_or, Nat.testBit_two_pow, Bool.or_eq_true]
    rw [Bool.or_eq_true] at hb
    rcases hb with q | q
    · exact .inr (decide_eq_true (beq_iff_eq.mp q))
    · exact .inl q
def insideP (g : Graph) (s : Nat) : Bool := g.any fun x => decide (x &&& s = s)
theorem insideP_eq {g : Graph} (o : Ok g) {s : Nat} (hs : s < 2 ^ g.length) (h0 : s ≠ 0) : (!insideP g s) = (nodes g).all (fun v => isIn s v || !(members g s).all fun u => joined g u v) := by
  have key : insideP g s = true ↔ ∃ v, v < g.length ∧ ∀ u ∈ members g s, joined g u v = true := by
    unfold insideP
    rw [List.any_eq_true]
    constructor
    · rintro ⟨x, hx, e⟩
      obtain ⟨i, hi, rfl⟩ := List.mem_iff_getElem.mp hx
      have e := (and_eq_iff _ _).mp (of_decide_eq_true e)
      refine ⟨i, hi, fun u hu => ?_⟩
      rw [o.sym' u i]
      have := e u (mem_members.mp hu).2
      unfold joined
      rw [List.getD_eq_getElem?_getD, List.getElem?_eq_getElem hi]
      exact this
    · rintro ⟨v, hv, e⟩
      refine ⟨g[v], List.getElem_mem hv, decide_eq_true ((and_eq_iff _ _).mpr fun u hu => ?_)⟩
      have := e u (mem_members.mpr ⟨bit_lt hs hu, hu⟩)
      rw [o.sym' u v] at this
      unfold joined at this
      rw [List.getD_eq_getElem?_getD, List.getElem?_eq_getElem hv] at this
      exact this
  rw [Bool.eq_iff_iff, Bool.not_eq_true', List.all_eq_true]
  constructor
  · intro h v hv
    rw [Bool.or_eq_true]
    right
    rw [Bool.not_eq_true']
    cases z : (members g s).all (fun u => joined g u v) with
    | false => rfl
    | true =>
      have := key.mpr ⟨v, List.mem_range.mp hv, List.all_eq_true.mp z⟩
      rw [h] at this; cases this
  · intro h
    cases z : insideP g s with
    | false => rfl
    | true =>
      obtain ⟨v, hv, e⟩ := key.mp z
      have hn := h v (List.mem_range.mpr hv)
      rw [Bool.or_eq_true] at hn
      rcases hn with q | q
      · have := e v (mem_members.mpr ⟨hv, q⟩)
        rw [o.self v hv] at this; cases this
      · rw [Bool.not_eq_true', ← Bool.not_eq_true, List.all_eq_true] at q
        exact absurd e q
/-- the greatest cliques, gone through from 1 on -/
def great (g : Graph) (s : Nat) : Bool := cliqueP g s && !insideP g s
theorem cliques_from {g : Graph} (o : Ok g) : cliques g = ((List.range (2 ^ g.length - 1)).map (fun i => 1 + i)).filter (great g) := by
  have e : sets g = 0 :: (List.range (2 ^ g.length - 1)).map (fun i => 1 + i) := by
    unfold sets
    have p := Nat.two_pow_pos g.length
    have : 2 ^ g.length = (2 ^ g.length - 1) + 1 := by omega
    rw [this, List.range_succ_eq_map]
    congr 1
    exact List.map_congr_left fun a _ => by show a + 1 = 1 + a; omega
  unfold cliques
  rw [e, List.filter_cons_of_neg (by unfold isClique; simp)]
  refine List.filter_congr fun s hs => ?_
  obtain ⟨i, hi, rfl⟩ := List.mem_map.mp hs
  have hi := List.mem_range.mp hi
  have hlt : 1 + i < 2 ^ g.length := by omega
  have h0 : 1 + i ≠ 0 := by omega
  unfold great
  have hb : (1 + i != 0) = true := bne_iff_ne.mpr h0
  rw [← cliqueP_eq hlt, ← insideP_eq o hlt h0, hb, Bool.true_and]
theorem cliques_eq (ns : List Int) : PyWrgood.cliques ns = if isGraph (WrgoodNeutral.graph ns) = true then 0 :: (cliques (WrgoodNeutral.graph ns)).map (fun (k : Nat) => (k : Int)) else [-1] := by
  show WrgoodNeutral.told (if isGraph (WrgoodNeutral.graph ns) = true then Wrgood.Answer.row (cliques (WrgoodNeutral.graph ns)) else .no (-1)) = _
  by_cases h : isGraph (WrgoodNeutral.graph ns) = true
  · rw [if_pos h, if_pos h]; rfl
  · rw [if_neg h, if_neg h]; rfl
end Gm

end
section
/-! the first of the greatest size -/
namespace Gm
open Gg
/-- the first place at which a row of numbers is greatest -/
def gtop (f : Nat → Nat) : Nat → Nat
  | 0 => 0
  | j + 1 => if j = 0 then 0 else if f j > f (gtop f j) then j else gtop f j
theorem gtop_lt (f : Nat → Nat) : ∀ j, 0 < j → gtop f j < j
  | 0, h => absurd h (Nat.lt_irrefl _)
  | j + 1, _ => by
    show (if j = 0 then 0 else if f j > f (gtop f j) then j else gtop f j) < j + 1
    by_cases z : j = 0
    · rw [if_pos z]; omega
    · rw [if_neg z]
      have := gtop_lt f j (by omega)
      split <;> omega
theorem gtop_is (f : Nat → Nat) : ∀ j, 0 < j → ∀ i, i < j → f i ≤ f (gtop f j) ∧ (i < gtop f j → f i < f (gtop f j))
  | 0, h => absurd h (Nat.lt_irrefl _)
  | j + 1, _ => fun i hi => by
    show f i ≤ f (if j = 0 then 0 else if f j > f (gtop f j) then j else gtop f j) ∧ (i < (if j = 0 then 0 else if f j > f (gtop f j) then j else gtop f j) → f i < f (if j = 0 then 0 else if f j > f (gtop f j) then j else gtop f j))
    by_cases z : j = 0
    · rw [if_pos z]
      have : i = 0 := by omega
      subst this
      exact ⟨Nat.le_refl _, fun h => absurd h (Nat.lt_irrefl _)⟩
    · rw [if_neg z]
      have ih := gtop_is f j (by omega)
      have tl := gtop_lt f j (by omega)
      by_cases b : f j > f (gtop f j)
      · rw [if_pos b]
        by_cases e : i = j
        · subst e; exact ⟨Nat.le_refl _, fun h => absurd h (Nat.lt_irrefl _)⟩
        · have := (ih i (by omega)).1
          exact ⟨by omega, fun _ => by omega⟩
      · rw [if_neg b]
        by_cases e : i = j
        · subst e; exact ⟨by omega, fun h => by omega⟩
        · exact ih i (by omega)
/-- of the greatest cliques the first with the most nodes -/
def most (g : Graph) : Nat := (cliques g).getD (gtop (fun i => size g ((cliques g).getD i 0)) (cliques g).length) 0
theorem mostOf_le {l : List Nat} {x : Nat} (h : x ∈ l) : x ≤ mostOf l := by
  induction l with
  | nil => cases h
  | cons a l ih =>
    show x ≤ max a (mostOf l)
    rcases List.mem_cons.mp h with e | e
    · omega
    · have := ih e; omega
theorem mostOf_mem : ∀ {l : List Nat}, l ≠ [] → mostOf l ∈ l
  | [], h => absurd rfl h
  | [a], _ => by
    have : mostOf [a] = a := by show max a 0 = a; omega
    rw [this]; exact List.mem_cons_self
  | a :: b :: l, _ => by
    have ih := mostOf_mem (l := b :: l) (by simp)
    have e : mostOf (a :: b :: l) = max a (mostOf (b :: l)) := rfl
    rw [e]
    by_cases z : a ≤ mostOf (b :: l)
    · rw [Nat.max_eq_right z]; exact List.mem_cons_of_mem _ ih
    · rw [Nat.max_eq_left (by omega)]; exact List.mem_cons_self
theorem mostOf_nil : mostOf [] = 0 := rfl
/-- every clique is within a greatest one -/
theorem clique_in {g : Graph} (o : Ok g) : ∀ (m : Nat) {s : Nat}, g.length - size g s = m → s < 2 ^ g.length → isClique g s = true → ∃ t ∈ cliques g, size g s ≤ size g t ∧ (t ≠ s → size g s < size g t)
  | m, s, hm, hs, hc => by
    by_cases hmax : ((nodes g).all fun v => isIn s v || !(members g s).all fun u => joined g u v) = true
    · refine ⟨s, ?_, Nat.le_refl _, fun h => absurd rfl h⟩
      unfold cliques
      rw [List.mem_filter]
      exact ⟨mem_sets.mpr hs, by rw [hc, hmax]; rfl⟩
    · have hmax : ¬ ∀ v ∈ nodes g, (isIn s v || !(members g s).all fun u => joined g u v) = true := fun z => hmax (List.all_eq_true.mpr z)
      obtain ⟨v, hv⟩ := Classical.not_forall.mp hmax
      obtain ⟨hvm, hv⟩ := Classical.not_imp.mp hv
      have hvl : v < g.length := List.mem_range.mp hvm
      rw [Bool.not_eq_true, Bool.or_eq_false_iff, Bool.not_eq_false'] at hv
      obtain ⟨hv1, hv2⟩ := hv
      have hj : ∀ u ∈ members g s, joined g u v = true := List.all_eq_true.mp hv2
      -- s with v
      have ht : s ||| 2 ^ v < 2 ^ g.length := Nat.or_lt_two_pow hs (Nat.pow_lt_pow_right (by decide) hvl)
      have mem : ∀ u, u ∈ members g (s ||| 2 ^ v) ↔ u ∈ members g s ∨ u = v := fun u => by
        rw [mem_members, mem_members, Nat.testBit_or, Nat.testBit_two_pow, Bool.or_eq_true, decide_eq_true_eq]
        constructor
        · rintro ⟨h1, h2 | h2⟩
          · exact .inl ⟨h1, h2⟩
          · exact .inr h2.symm
        · rintro (⟨h1, h2⟩ | rfl)
          · exact ⟨h1, .inl h2⟩
          · exact ⟨hvl, .inr rfl⟩
      have hct : isClique g (s ||| 2 ^ v) = true := by
        unfold isClique at hc ⊢
        rw [Bool.and_eq_true] at hc ⊢
        refine ⟨?_, ?_⟩
        · rw [bne_iff_ne]
          intro z
          have h0 : s ≠ 0 := bne_iff_ne.mp hc.1
          have := Nat.left_le_or (n := s) (m := 2 ^ v)
          omega
        · rw [List.all_eq_true]
          intro a ha
          rw [List.all_eq_true]
          intro b hb
          rcases (mem a).mp ha with xa | xa
          · rcases (mem b).mp hb with xb | xb
            · exact List.all_eq_true.mp (List.all_eq_true.mp hc.2 a xa) b xb
            · rw [xb, hj a xa]; simp
          · rcases (mem b).mp hb with xb | xb
            · rw [xa, o.sym' v b, hj b xb]; simp
            · rw [xa, xb]; simp
      have hsz : size g s < size g (s ||| 2 ^ v) := by
        unfold size members
        have h1 := cnt_more (p := fun u => isIn s u) (q := fun u => isIn (s ||| 2 ^ v) u) (n := g.length) hvl (fun u hu => by
          unfold isIn at hu ⊢
          rw [Nat.testBit_or, hu]; rfl) hv1 (by unfold isIn; rw [Nat.testBit_or, Nat.testBit_two_pow]; simp)
        exact h1
      have hle : size g (s ||| 2 ^ v) ≤ g.length := by
        unfold size members nodes
        have := List.length_filter_le (fun u => isIn (s ||| 2 ^ v) u) (List.range g.length)
        rw [List.length_range] at this
        exact this
      obtain ⟨t, h1, h2, h3⟩ := clique_in o (g.length - size g (s ||| 2 ^ v)) rfl ht hct
      exact ⟨t, h1, by omega, fun _ => by omega⟩
termination_by m => m
decreasing_by omega
where
  cnt_more {p q : Nat → Bool} {n v : Nat} (hv : v < n) (h : ∀ u, p u = true → q u = true) (h1 : p v = false) (h2 : q v = true) : ((List.range n).filter p).length < ((List.range n).filter q).length := by
    induction n with
    | zero => omega
    | succ n ih =>
      rw [List.range_succ, List.filter_append, List.filter_append, List.length_append, List.length_append]
      have mono : ((List.range n).filter p).length ≤ ((List.range n).filter q).length := by
        have e : (List.range n).filter p = ((List.range n).filter q).filter p := by
          rw [List.filter_filter]
          refine List.filter_congr fun u _ => ?_
          cases z : p u with
          | true => rw [h u z]; rfl
          | false => simp
        rw [e]
        exact List.length_filter_le _ _
      by_cases e : v = n
      · subst e
        have a1 : ([v].filter p).length = 0 := by rw [List.filter_cons_of_neg (by rw [h1]; decide)]; rfl
        have a2 : ([v].filter q).length = 1 := by rw [List.filter_cons_of_pos h2]; rfl
        omega
      · have := ih (by omega)
        have a : ([n].filter p).length ≤ ([n].filter q).length := by
          cases z : p n with
          | true => rw [List.filter_cons_of_pos z, List.filter_cons_of_pos (h n z)]; exact Nat.le_refl _
          | false => rw [List.filter_cons_of_neg (by rw [z]; decide)]; exact Nat.zero_le _
        omega
theorem size_lt {g : Graph} {s : Nat} : size g s ≤ g.length := by
  unfold size members nodes
  have := List.length_filter_le (fun u => isIn s u) (List.range g.length)
  rw [List.length_range] at this
  exact this
theorem single_clique {g : Graph} (o : Ok g) : isClique g 1 = true := by
  have h0 := o.pos
  have mem : ∀ u, u ∈ members g 1 ↔ u = 0 := fun u => by
    rw [mem_members]
    constructor
    · rintro ⟨_, h2⟩
      have : (1 : Nat) = 2 ^ 0 := rfl
      rw [this, Nat.testBit_two_pow] at h2
      exact (of_decide_eq_true h2).symm
    · rintro rfl
      exact ⟨h0, rfl⟩
  unfold isClique
  rw [Bool.and_eq_true]
  refine ⟨by decide, ?_⟩
  rw [List.all_eq_true]
  intro a ha
  rw [List.all_eq_true]
  intro b hb
  rw [(mem a).mp ha, (mem b).mp hb]; simp
theorem cliques_ne {g : Graph} (o : Ok g) : cliques g ≠ [] := fun z => by
  obtain ⟨t, h1, _⟩ := clique_in o _ rfl (Nat.one_lt_two_pow (by have := o.pos; omega)) (single_clique o)
  rw [z] at h1
  cases h1
theorem most_is {g : Graph} (o : Ok g) : most g ∈ cliques g ∧ ∀ t ∈ cliques g, size g t ≤ size g (most g) ∧ (t < most g → size g t < size g (most g)) := by
  have hne := cliques_ne o
  have hl : 0 < (cliques g).length := List.length_pos_iff.mpr hne
  generalize hf : (fun i => size g ((cliques g).getD i 0)) = f
  have ht := gtop_lt f (cliques g).length hl
  have hm : most g = (cliques g)[gtop f (cliques g).length] := by
    unfold most
    rw [hf, List.getD_eq_getElem?_getD, List.getElem?_eq_getElem ht]; rfl
  refine ⟨by rw [hm]; exact List.getElem_mem ht, fun t h => ?_⟩
  obtain ⟨i, hi, rfl⟩ := List.mem_iff_getElem.mp h
  have q := gtop_is f _ hl i hi
  have e1 : f i = size g (cliques g)[i] := by
    rw [← hf]
    show size g ((cliques g).getD i 0) = _
    rw [List.getD_eq_getElem?_getD, List.getElem?_eq_getElem hi]; rfl
  have e2 : f (gtop f (cliques g).length) = size g (most g) := by
    have : f (gtop f (cliques g).length) = size g ((cliques g).getD (gtop f (cliques g).length) 0) := by rw [← hf]
    rw [this, hm, List.getD_eq_getElem?_getD, List.getElem?_eq_getElem ht]; rfl
  rw [e1, e2] at q
  refine ⟨q.1, fun lt => q.2 ?_⟩
  rw [hm] at lt
  rcases Nat.lt_or_ge i (gtop f (cliques g).length) with z | z
  · exact z
  · exfalso
    have srt : (cliques g).Pairwise (· < ·) := by
      unfold cliques sets
      exact List.Pairwise.filter _ List.pairwise_lt_range
    rcases Nat.eq_or_lt_of_le z with e | e
    · subst e; exact Nat.lt_irrefl _ lt
    · have := List.pairwise_iff_getElem.mp srt _ _ ht hi e
      omega
theorem clique_eq {g : Graph} (o : Ok g) : clique g = size g (most g) := by
  obtain ⟨h1, h2⟩ := most_is o
  unfold clique
  refine Nat.le_antisymm ?_ (mostOf_le (List.mem_map_of_mem h1))
  have := mostOf_mem (l := (cliques g).map fun s => size g s) (by simpa using cliques_ne o)
  obtain ⟨t, ht, e⟩ := List.mem_map.mp this
  rw [← e]
  exact (h2 t ht).1
/-! ### sets of which no two are joined -/
theorem isApart_turned {g : Graph} (o : Ok g) {s : Nat} (hs : s < 2 ^ g.length) (h0 : s ≠ 0) : isApart g s = isClique (turned g) s := by
  have ml : members (turned g) s = members g s := by unfold members nodes; rw [turned_len]
  unfold isApart isClique
  have hb : (s != 0) = true := bne_iff_ne.mpr h0
  rw [hb, Bool.true_and, ml, Bool.eq_iff_iff, List.all_eq_true, List.all_eq_true]
  refine forall_congr' fun a => forall_congr' fun ha => ?_
  rw [List.all_eq_true, List.all_eq_true]
  refine forall_congr' fun b => forall_congr' fun hb => ?_
  have ha' := (mem_members.mp ha).1
  have hb' := (mem_members.mp hb).1
  rw [turned_joined ha' hb']
  by_cases e : a = b
  · subst e
    rw [o.self a ha']; simp
  · have : (a == b) = false := beq_eq_false_iff_ne.mpr e
    rw [this, Bool.false_or]
    have : (a != b) = true := bne_iff_ne.mpr e
    rw [this, Bool.true_and]
theorem size_turned (g : Graph) (s : Nat) : size (turned g) s = size g s := by unfold size members nodes; rw [turned_len]
theorem apart_facts {g : Graph} (o : Ok g) : apartSize g = size g (most (turned g)) ∧ apart g = most (turned g) := by
  have to := turned_ok o
  obtain ⟨h1, h2⟩ := most_is to
  have hm : most (turned g) < 2 ^ g.length ∧ isClique (turned g) (most (turned g)) = true := by
    unfold cliques at h1
    rw [List.mem_filter] at h1
    have a := mem_sets.mp h1.1
    rw [turned_len] at a
    rw [Bool.and_eq_true] at h1
    exact ⟨a, h1.2.1⟩
  have hm0 : most (turned g) ≠ 0 := fun z => by
    have := hm.2
    unfold isClique at this
    rw [z] at this
    simp at this
  have hap : isApart g (most (turned g)) = true := by rw [isApart_turned o hm.1 hm0]; exact hm.2
  have all : ∀ s, s < 2 ^ g.length → isApart g s = true → size g s ≤ size g (most (turned g)) ∧ (s < most (turned g) → size g s < size g (most (turned g))) := fun s hs ha => by
    by_cases h0 : s = 0
    · subst h0
      have z : size g 0 = 0 := by
        unfold size
        rw [List.length_eq_zero_iff, List.eq_nil_iff_forall_not_mem]
        intro v hv
        have := (mem_members.mp hv).2
        rw [Nat.zero_testBit] at this
        cases this
      have p : 0 < size g (most (turned g)) := by
        unfold size
        rw [List.length_pos_iff]
        intro z
        refine hm0 ((zero_iff hm.1).mpr fun v hv => ?_)
        cases e : (most (turned g)).testBit v with
        | false => rfl
        | true =>
          have := mem_members.mpr ⟨hv, e⟩
          rw [z] at this
          cases this
      omega
    · rw [isApart_turned o hs h0] at ha
      obtain ⟨t, t1, t2, t3⟩ := clique_in to _ rfl (by rw [turned_len]; exact hs) ha
      obtain ⟨q1, q2⟩ := h2 t t1
      rw [size_turned, size_turned] at t2 t3 q1 q2
      refine ⟨by omega, fun lt => ?_⟩
      by_cases e : t = s
      · subst e; exact q2 lt
      · have := t3 e; omega
  have hsz : apartSize g = size g (most (turned g)) := by
    unfold apartSize
    have hin : most (turned g) ∈ (sets g).filter fun s => isApart g s := List.mem_filter.mpr ⟨mem_sets.mpr hm.1, hap⟩
    refine Nat.le_antisymm ?_ (mostOf_le (List.mem_map_of_mem hin))
    have := mostOf_mem (l := ((sets g).filter fun s => isApart g s).map fun s => size g s) (by
      intro z
      rw [List.map_eq_nil_iff] at z
      rw [z] at hin
      cases hin)
    obtain ⟨t, ht, e⟩ := List.mem_map.mp this
    obtain ⟨t1, t2⟩ := List.mem_filter.mp ht
    rw [← e]
    exact (all t (mem_sets.mp t1) t2).1
  refine ⟨hsz, ?_⟩
  unfold apart
  have hf : (sets g).find? (fun s => isApart g s && size g s == apartSize g) = some (most (turned g)) := by
    rw [List.find?_eq_some_iff_getElem]
    refine ⟨by rw [hap, hsz]; simp, most (turned g), by unfold sets; rw [List.length_range]; exact hm.1, by unfold sets; rw [List.getElem_range], fun j hj => ?_⟩
    have e : (sets g)[j]'(by unfold sets; rw [List.length_range]; exact Nat.lt_trans hj hm.1) = j := by unfold sets; rw [List.getElem_range]
    rw [e, hsz]
    cases z : isApart g j with
    | false => rfl
    | true =>
      have := (all j (Nat.lt_trans hj hm.1) z).2 hj
      have ne : (size g j == size g (most (turned g))) = false := beq_eq_false_iff_ne.mpr (by omega)
      rw [ne]; rfl
  rw [hf]; rfl
theorem apart_eq (ns : List Int) : PyWrgood.apart ns = if isGraph (WrgoodNeutral.graph ns) = true then [0, (apart (WrgoodNeutral.graph ns) : Int)] else [-1] := by
  show WrgoodNeutral.told (if isGraph (WrgoodNeutral.graph ns) = true then Wrgood.Answer.number (apart (WrgoodNeutral.graph ns)) else .no (-1)) = _
  by_cases h : isGraph (WrgoodNeutral.graph ns) = true
  · rw [if_pos h, if_pos h]; rfl
  · rw [if_neg h, if_neg h]; rfl
end Gm

end
section
/-! rows that grow node by node: the first one found depth first is the first of its level -/
namespace Gm
open Gg
/-- one node more, in order -/
def more (g : Graph) (may : Row → Nat → Bool) (rows : List Row) : List Row := rows.flatMap fun r => ((nodes g).filter fun v => !r.contains v && may r v).map fun v => r ++ [v]
def lv (g : Graph) (may : Row → Nat → Bool) : Nat → List Row → List Row
  | 0, rows => rows
  | d + 1, rows => lv g may d (more g may rows)
theorem lv_snoc (g : Graph) (may : Row → Nat → Bool) : ∀ (d : Nat) (rows : List Row), lv g may (d + 1) rows = more g may (lv g may d rows)
  | 0, rows => rfl
  | d + 1, rows => by
    show lv g may (d + 1) (more g may rows) = more g may (lv g may d (more g may rows))
    exact lv_snoc g may d _
theorem more_append (g : Graph) (may : Row → Nat → Bool) (a b : List Row) : more g may (a ++ b) = more g may a ++ more g may b := by
  unfold more; exact List.flatMap_append
theorem lv_append (g : Graph) (may : Row → Nat → Bool) : ∀ (d : Nat) (a b : List Row), lv g may d (a ++ b) = lv g may d a ++ lv g may d b
  | 0, _, _ => rfl
  | d + 1, a, b => by
    show lv g may d (more g may (a ++ b)) = lv g may d (more g may a) ++ lv g may d (more g may b)
    rw [more_append, lv_append g may d]
theorem more_nil (g : Graph) (may : Row → Nat → Bool) : more g may [] = [] := rfl
theorem lv_nil (g : Graph) (may : Row → Nat → Bool) : ∀ d, lv g may d [] = []
  | 0 => rfl
  | d + 1 => lv_nil g may d
theorem lv_flat (g : Graph) (may : Row → Nat → Bool) (d : Nat) : ∀ rows : List Row, lv g may d rows = rows.flatMap fun r => lv g may d [r]
  | [] => lv_nil g may d
  | r :: rows => by
    rw [show r :: rows = [r] ++ rows from rfl, lv_append, lv_flat g may d rows]
    rw [List.flatMap_append]
    simp
theorem head_flat {α : Type} (p : α → Bool) (F : α → List Row) : ∀ l : List α, l.findSome? (fun v => if p v = true then (F v).head? else none) = ((l.filter p).flatMap F).head?
  | [] => rfl
  | a :: l => by
    rw [List.findSome?_cons, head_flat p F l]
    by_cases h : p a = true
    · rw [if_pos h, List.filter_cons_of_pos h, List.flatMap_cons, List.head?_append]
      cases (F a).head? <;> rfl
    · rw [if_neg h, List.filter_cons_of_neg h]
theorem extend_lv (g : Graph) (may : Row → Nat → Bool) (k : Nat) : ∀ (d f : Nat) (r : Row), r.length + d = k → d < f → extend g may k f r = (lv g may d [r]).head?
  | 0, 0, _, _, h => by omega
  | 0, f + 1, r, e, _ => by
    unfold extend
    rw [if_pos (by omega)]
    rfl
  | d + 1, 0, _, _, h => by omega
  | d + 1, f + 1, r, e, h => by
    unfold extend
    rw [if_neg (by omega)]
    have e1 : (fun v => if (!r.contains v && may r v) = true then extend g may k f (r ++ [v]) else none) = fun v => if (fun v => !r.contains v && may r v) v = true then (lv g may d [r ++ [v]]).head? else none := by
      funext v
      rw [extend_lv g may k d f (r ++ [v]) (by rw [List.length_append]; simp; omega) (by omega)]
    rw [e1, head_flat]
    show _ = (lv g may d (more g may [r])).head?
    rw [lv_flat g may d (more g may [r])]
    congr 1
    unfold more
    simp only [List.flatMap_cons, List.flatMap_nil, List.append_nil]
    rw [List.flatMap_map]
theorem rowOf_lv (g : Graph) (may : Row → Nat → Bool) (k : Nat) : rowOf g may k = (lv g may k [[]]).head? := by
  unfold rowOf
  exact extend_lv g may k k (k + 1) [] (by simp) (by omega)
theorem more_len {g : Graph} {may : Row → Nat → Bool} {rows : List Row} {n : Nat} (h : ∀ r ∈ rows, r.length = n) : ∀ r ∈ more g may rows, r.length = n + 1 := by
  intro r hr
  unfold more at hr
  obtain ⟨s, hs, h2⟩ := List.mem_flatMap.mp hr
  obtain ⟨v, _, rfl⟩ := List.mem_map.mp h2
  rw [List.length_append, h s hs]; rfl
theorem lv_len (g : Graph) (may : Row → Nat → Bool) : ∀ (d : Nat), ∀ r ∈ lv g may d [[]], r.length = d
  | 0 => by
    intro r hr
    have : r = [] := by simpa [lv] using hr
    rw [this]; rfl
  | d + 1 => by
    rw [lv_snoc]
    exact more_len (lv_len g may d)
theorem more_congr {g : Graph} {may may' : Row → Nat → Bool} {rows : List Row} (h : ∀ r ∈ rows, ∀ v ∈ nodes g, r.contains v = false → may r v = may' r v) : more g may rows = more g may' rows := by
  unfold more
  induction rows with
  | nil => rfl
  | cons r rows ih =>
    rw [List.flatMap_cons, List.flatMap_cons, ih fun s hs => h s (List.mem_cons_of_mem _ hs)]
    congr 2
    refine List.filter_congr fun v hv => ?_
    cases hc : r.contains v with
    | true => rfl
    | false => rw [h r List.mem_cons_self v hv hc]
/-- the open rows: each joined with the next, no others -/
def bo (g : Graph) (r : Row) (v : Nat) : Bool := match r with
  | [] => true
  | a :: b => joined g (r.getLastD a) v && ((b.dropLast).all (fun u => !joined g u v) && (b.isEmpty || !joined g a v))
theorem bare_open {g : Graph} {k : Nat} {r : Row} {v : Nat} (h : r.length + 1 ≠ k) : bareNext g k r v = bo g r v := by
  cases r with
  | nil => rfl
  | cons a b =>
    unfold bareNext bo
    dsimp only
    rw [if_neg h]
theorem lv_open (g : Graph) (k : Nat) : ∀ m, m < k → lv g (fun r v => bareNext g k r v) m [[]] = lv g (bo g) m [[]]
  | 0, _ => rfl
  | m + 1, h => by
    rw [lv_snoc, lv_snoc, lv_open g k m (by omega)]
    refine more_congr fun r hr v _ _ => bare_open ?_
    rw [lv_len g (bo g) m r hr]
    omega
/-- the open rows of m nodes; the chordless rings of k (and rings of three) -/
def opn (g : Graph) (m : Nat) : List Row := lv g (bo g) m [[]]
def rings (g : Graph) (k : Nat) : List Row := more g (bareNext g k) (opn g (k - 1))
theorem chordless_head (g : Graph) {k : Nat} (h : 1 ≤ k) : chordless g k = (rings g k).head? := by
  unfold chordless rings opn
  rw [rowOf_lv, ← lv_open g k (k - 1) (by omega)]
  have e : k = (k - 1) + 1 := by omega
  conv => lhs; rw [e, lv_snoc, ← e]
/-- the program's step: a node that carries a row on, whether or not it's joined with the first -/
def carry (g : Graph) (r : Row) (v : Nat) : Bool := match r with
  | [] => true
  | a :: b => joined g (r.getLastD a) v && (b.dropLast).all (fun u => !joined g u v)
def shut (g : Graph) (r : Row) : Bool := match r with
  | [] => false
  | a :: _ => joined g a (r.getLastD a)
theorem getLastD_snoc (a : Nat) (b : Row) (v : Nat) : ((a :: b) ++ [v]).getLastD a = v := by
  rw [List.getLastD_eq_getLast?, List.getLast?_append]; rfl
theorem filter_flat_map {α : Type} (q : Row → Bool) (F : α → List Row) : ∀ l : List α, (l.flatMap F).filter q = l.flatMap fun x => (F x).filter q
  | [] => rfl
  | a :: l => by rw [List.flatMap_cons, List.filter_append, filter_flat_map q F l, List.flatMap_cons]
theorem more_filter {g : Graph} {may may' : Row → Nat → Bool} {q : Row → Bool} {rows : List Row} (h : ∀ r ∈ rows, ∀ v, (may r v && q (r ++ [v])) = may' r v) : (more g may rows).filter q = more g may' rows := by
  unfold more
  induction rows with
  | nil => rfl
  | cons r rows ih =>
    rw [List.flatMap_cons, List.flatMap_cons, List.filter_append, ih fun s hs => h s (List.mem_cons_of_mem _ hs)]
    congr 1
    rw [List.filter_map, List.filter_filter]
    congr 1
    refine List.filter_congr fun v _ => ?_
    show (q (r ++ [v]) && (!r.contains v && may r v)) = _
    rw [← h r List.mem_cons_self v]
    cases r.contains v <;> cases may r v <;> cases q (r ++ [v]) <;> rfl
theorem more_shut {g : Graph} {k : Nat} (h : 2 ≤ k) : (more g (carry g) (opn g k)).filter (shut g) = rings g (k + 1) := by
  show _ = more g (bareNext g (k + 1)) (opn g k)
  refine more_filter fun r hr v => ?_
  have hl := lv_len g (bo g) k r hr
  match r, hl with
  | [], hl => simp at hl; omega
  | [a], hl => simp at hl; omega
  | a :: c :: b, hl =>
    unfold carry bareNext shut
    dsimp only
    rw [if_pos (by omega)]
    simp only [List.cons_append]
    rw [show a :: c :: (b ++ [v]) = (a :: c :: b) ++ [v] from rfl, getLastD_snoc, Bool.and_assoc]
theorem more_unshut {g : Graph} {k : Nat} (h : 2 ≤ k) : (more g (carry g) (opn g k)).filter (fun r => !shut g r) = opn g (k + 1) := by
  unfold opn
  rw [lv_snoc]
  refine more_filter fun r hr v => ?_
  have hl := lv_len g (bo g) k r hr
  match r, hl with
  | [], hl => simp at hl; omega
  | [a], hl => simp at hl; omega
  | a :: c :: b, hl =>
    unfold carry bo shut
    simp only [List.cons_append]
    rw [show a :: c :: (b ++ [v]) = (a :: c :: b) ++ [v] from rfl, getLastD_snoc, Bool.and_assoc]
    rfl
theorem opn_two {g : Graph} (o : Ok g) : opn g 2 = jrows g := by
  show more g (bo g) (more g (bo g) [[]]) = _
  unfold jrows more
  simp only [List.flatMap_cons, List.flatMap_nil, List.append_nil]
  have e : (List.filter (fun v => !List.contains [] v && bo g [] v) (nodes g)) = nodes g := by
    rw [List.filter_eq_self]; intro a _; rfl
  rw [e, List.flatMap_map]
  congr 1
  funext i
  show List.map (fun v => [i] ++ [v]) _ = _
  congr 1
  refine List.filter_congr fun v _ => ?_
  show (!List.contains [i] v && (joined g ([i].getLastD i) v && (([] : Row).dropLast.all (fun u => !joined g u v) && (([] : Row).isEmpty || !joined g i v)))) = joined g i v
  have e2 : ([i] : Row).getLastD i = i := rfl
  rw [e2]
  simp only [List.dropLast_nil, List.all_nil, List.isEmpty_nil, Bool.true_or, Bool.and_true]
  by_cases hiv : i = v
  · subst hiv
    rw [o.self']; simp
  · have : List.contains [i] v = false := by simp; exact fun h => hiv h.symm
    rw [this]; simp
theorem rings_len {g : Graph} {k : Nat} (h : 1 ≤ k) : ∀ r ∈ rings g k, r.length = k := by
  unfold rings
  have := more_len (g := g) (may := bareNext g k) (lv_len g (bo g) (k - 1))
  intro r hr
  rw [this r hr]
  omega
end Gm

end
section
/-! a graph without a chordless ring: of any nodes left one can lead -/
namespace Gm
open Gg
/-- an open row, node by node -/
inductive Op (g : Graph) : Row → Prop
  | nil : Op g []
  | snoc {s : Row} {v : Nat} : Op g s → v < g.length → v ∉ s → bo g s v = true → Op g (s ++ [v])
theorem mem_more {g : Graph} {may : Row → Nat → Bool} {rows : List Row} {s : Row} {v : Nat} (h : s ∈ rows) (hv : v < g.length) (hn : v ∉ s) (hm : may s v = true) : s ++ [v] ∈ more g may rows := by
  unfold more
  refine List.mem_flatMap.mpr ⟨s, h, List.mem_map.mpr ⟨v, List.mem_filter.mpr ⟨List.mem_range.mpr hv, ?_⟩, rfl⟩⟩
  rw [hm]
  simp [hn]
theorem Op.mem {g : Graph} {s : Row} (h : Op g s) : s ∈ opn g s.length := by
  induction h with
  | nil => exact List.mem_singleton.mpr rfl
  | @snoc s v h hv hn hb ih =>
    rw [List.length_append]
    show s ++ [v] ∈ lv g (bo g) (s.length + 1) [[]]
    rw [lv_snoc]
    exact mem_more ih hv hn hb
theorem Op.nodup {g : Graph} {s : Row} (h : Op g s) : s.Nodup := by
  induction h with
  | nil => exact List.nodup_nil
  | snoc h hv hn hb ih =>
    rw [List.nodup_append]
    refine ⟨ih, by simp, ?_⟩
    intro a ha b hb e
    have : b = _ := List.mem_singleton.mp hb
    subst this
    subst e
    exact hn ha
theorem Op.lt {g : Graph} {s : Row} (h : Op g s) : ∀ u ∈ s, u < g.length := by
  induction h with
  | nil => intro u hu; cases hu
  | snoc h hv hn hb ih =>
    intro u hu
    rcases List.mem_append.mp hu with q | q
    · exact ih u q
    · rw [List.mem_singleton.mp q]; exact hv
/-- no rows of different nodes are longer than the graph -/
theorem nodup_len : ∀ (n : Nat) (l : List Nat), l.Nodup → (∀ u ∈ l, u < n) → l.length ≤ n
  | 0, l, _, h => by
    cases l with
    | nil => simp
    | cons a l => exact absurd (h a List.mem_cons_self) (by omega)
  | n + 1, l, hn, h => by
    have h1 := nodup_len n (l.filter fun u => decide (u ≠ n)) (hn.filter _) (fun u hu => by
      have q := List.mem_filter.mp hu
      have q1 := h u q.1
      have q2 : u ≠ n := of_decide_eq_true q.2
      omega)
    have h2 : l.length ≤ (l.filter fun u => decide (u ≠ n)).length + 1 := by
      clear h1 h
      induction l with
      | nil => simp
      | cons a l ih =>
        have hl := (List.nodup_cons.mp hn)
        by_cases e : a = n
        · subst e
          have : l.filter (fun u => decide (u ≠ a)) = l := by
            rw [List.filter_eq_self]
            intro u hu
            exact decide_eq_true fun e => hl.1 (e ▸ hu)
          rw [List.filter_cons_of_neg (by simp), this]
          simp
        · rw [List.filter_cons_of_pos (by simp [e])]
          have := ih hl.2
          simp only [List.length_cons]
          omega
    omega
/-- v is come to from x by k steps, each to a node of D -/
inductive Rc (g : Graph) (D : Nat → Prop) (x : Nat) : Nat → Nat → Prop
  | zero : Rc g D x 0 x
  | step {k u v : Nat} : Rc g D x k u → joined g u v = true → D v → Rc g D x (k + 1) v
theorem Rc.or {g : Graph} {D : Nat → Prop} {x k v : Nat} (h : Rc g D x k v) : v = x ∨ D v := by
  cases h with
  | zero => exact .inl rfl
  | step _ _ d => exact .inr d
theorem bo_of {g : Graph} {s : Row} {v l : Nat} (hl : s.getLast? = some l) (h1 : joined g l v = true) (h2 : ∀ u ∈ s.dropLast, joined g u v = false) : bo g s v = true := by
  match s, hl with
  | [], hl => cases hl
  | [a], hl =>
    have : a = l := by simpa using hl
    subst this
    show (joined g ([a].getLastD a) v && ([].all _ && (true || _))) = true
    have e : ([a] : Row).getLastD a = a := rfl
    rw [e, h1]; rfl
  | a :: c :: b, hl =>
    unfold bo
    have e : (a :: c :: b).getLastD a = l := by rw [List.getLastD_eq_getLast?, hl]; rfl
    dsimp only
    rw [e, h1]
    simp only [Bool.true_and, Bool.and_eq_true, List.all_eq_true, Bool.not_eq_true']
    refine ⟨fun u hu => h2 u ?_, ?_⟩
    · rw [List.dropLast_cons_of_ne_nil (by simp)]
      exact List.mem_cons_of_mem _ hu
    · rw [h2 a (by rw [List.dropLast_cons_of_ne_nil (by simp)]; exact List.mem_cons_self)]
      simp
/-- a shortest way is an open row -/
theorem shortest {g : Graph} {D : Nat → Prop} {x : Nat} (hx : x < g.length) (hD : ∀ u, D u → u < g.length) : ∀ (k v : Nat), Rc g D x k v → (∀ j, j < k → ¬ Rc g D x j v) →
    ∃ s : Row, Op g s ∧ s.length = k + 1 ∧ s.head? = some x ∧ s.getLast? = some v ∧ (∀ u ∈ s, ∃ i, i ≤ k ∧ Rc g D x i u) ∧ ∀ u ∈ s.dropLast, ∃ i, i < k ∧ Rc g D x i u
  | 0, v, h, _ => by
    cases h
    refine ⟨[x], ?_, rfl, rfl, rfl, ?_, ?_⟩
    · exact Op.snoc (s := []) .nil hx (by simp) rfl
    · intro u hu
      rw [List.mem_singleton.mp hu]
      exact ⟨0, Nat.le_refl _, .zero⟩
    · intro u hu
      simp at hu
  | k + 1, v, h, hm => by
    cases h with
    | @step _ u _ hu hj hv =>
      have mu : ∀ j, j < k → ¬ Rc g D x j u := fun j hjk q => hm (j + 1) (by omega) (.step q hj hv)
      obtain ⟨s, o, hl, hh, hla, ha, hi⟩ := shortest hx hD k u hu mu
      have hvs : v ∉ s := fun q => by
        obtain ⟨i, hik, r⟩ := ha v q
        exact hm i (by omega) r
      have hb : bo g s v = true := bo_of hla hj fun w hw => by
        cases e : joined g w v with
        | false => rfl
        | true =>
          obtain ⟨i, hik, r⟩ := hi w hw
          exact absurd (Rc.step r e hv) (hm (i + 1) (by omega))
      refine ⟨s ++ [v], .snoc o (hD v hv) hvs hb, ?_, ?_, ?_, ?_, ?_⟩
      · rw [List.length_append, hl]; rfl
      · cases s with
        | nil => simp at hl
        | cons a b => simpa using hh
      · simp
      · intro w hw
        rcases List.mem_append.mp hw with q | q
        · obtain ⟨i, hik, r⟩ := ha w q
          exact ⟨i, by omega, r⟩
        · rw [List.mem_singleton.mp q]
          exact ⟨k + 1, Nat.le_refl _, .step hu hj hv⟩
      · intro w hw
        rw [List.dropLast_concat] at hw
        obtain ⟨i, hik, r⟩ := ha w hw
        exact ⟨i, by omega, r⟩
theorem least_of {P : Nat → Prop} : ∀ {k : Nat}, P k → ∃ m, P m ∧ ∀ j, j < m → ¬ P j := fun {k} => by
  induction k using Nat.strongRecOn with
  | _ k ih =>
    intro h
    by_cases q : ∃ j, j < k ∧ P j
    · obtain ⟨j, hj, hp⟩ := q
      exact ih j hj hp
    · exact ⟨k, h, fun j hj hp => q ⟨j, hj, hp⟩⟩
/-- two nodes that aren't joined, both joined with v, with a way between them past v: a chordless ring -/
theorem ring_of {g : Graph} (o : Ok g) {D : Nat → Prop} {v x y : Nat} (hD : ∀ u, D u → joined g v u = false ∧ u ≠ v ∧ u < g.length) (hx : joined g v x = true) (hy : joined g v y = true) (hxy : x ≠ y) (nxy : joined g x y = false)
    {k : Nat} (w : Rc g (fun u => D u ∨ u = y) x k y) : ∃ k, 4 ≤ k ∧ rings g k ≠ [] := by
  obtain ⟨m, wm, hm⟩ := least_of (P := fun k => Rc g (fun u => D u ∨ u = y) x k y) w
  have hxl := (o.joined_lt hx).2
  have hyl := (o.joined_lt hy).2
  have hvl := (o.joined_lt hx).1
  have h2 : 2 ≤ m := by
    match m, wm with
    | 0, wm => cases wm; exact absurd rfl hxy
    | 1, wm =>
      cases wm with
      | step a b c =>
        cases a
        rw [nxy] at b; cases b
    | m + 2, _ => omega
  obtain ⟨s, os, hl, hh, hla, ha, hi⟩ := shortest (D := fun u => D u ∨ u = y) hxl (fun u hu => hu.elim (fun q => (hD u q).2.2) fun q => q ▸ hyl) m y wm hm
  have nd := os.nodup
  have hvs : v ∉ s := fun q => by
    obtain ⟨i, _, r⟩ := ha v q
    rcases r.or with e | e | e
    · rw [e, o.self'] at hx; cases hx
    · exact (hD v e).2.1 rfl
    · rw [e, o.self'] at hy; cases hy
  refine ⟨m + 2, by omega, fun e => ?_⟩
  have : s ++ [v] ∈ rings g (m + 2) := by
    unfold rings
    refine mem_more (by have := os.mem; rw [hl] at this; exact this) hvl hvs ?_
    match s, hl, hh, hla, nd, ha, hi with
    | [], hl, _, _, _, _, _ => simp at hl
    | [a], hl, _, _, _, _, _ => simp at hl; omega
    | a :: c :: b, hl, hh, hla, nd, ha, hi =>
      have ea : a = x := by simpa using hh
      subst ea
      unfold bareNext
      have e1 : (a :: c :: b).getLastD a = y := by rw [List.getLastD_eq_getLast?, hla]; rfl
      dsimp only
      rw [e1, if_pos (by rw [hl]), o.sym' y v, hy, o.sym' a v, hx]
      simp only [Bool.true_and, Bool.and_true, List.all_eq_true, Bool.not_eq_true']
      intro u hu
      have hu1 : u ∈ c :: b := List.dropLast_subset _ hu
      have hu2 : u ∈ (a :: c :: b).dropLast := by rw [List.dropLast_cons_of_ne_nil (by simp)]; exact List.mem_cons_of_mem _ hu
      obtain ⟨i, hik, r⟩ := hi u hu2
      rcases r.or with q | q | q
      · rw [q] at hu1
        exact absurd hu1 (List.nodup_cons.mp nd).1
      · rw [o.sym' u v]; exact (hD u q).1
      · subst q
        exact absurd r (hm i hik)
  rw [e] at this
  cases this
/-- c's neighbours among S are joined with one another -/
def Simp (g : Graph) (S : List Nat) (c : Nat) : Prop := ∀ a ∈ S, ∀ b ∈ S, joined g c a = true → joined g c b = true → a ≠ b → joined g a b = true
theorem Rc.mono {g : Graph} {D D' : Nat → Prop} (h : ∀ u, D u → D' u) {x k v : Nat} (r : Rc g D x k v) : Rc g D' x k v := by
  induction r with
  | zero => exact .zero
  | step _ j d ih => exact .step ih j (h _ d)
theorem Rc.trans {g : Graph} {D : Nat → Prop} {x y k : Nat} (r : Rc g D x k y) {l z : Nat} (s : Rc g D y l z) : ∃ m, Rc g D x m z := by
  induction s with
  | zero => exact ⟨k, r⟩
  | step _ j d ih =>
    obtain ⟨m, q⟩ := ih
    exact ⟨m + 1, .step q j d⟩
theorem Rc.symm {g : Graph} (o : Ok g) {D : Nat → Prop} {x k y : Nat} (hx : D x) (r : Rc g D x k y) : ∃ m, Rc g D y m x := by
  induction r with
  | zero => exact ⟨0, .zero⟩
  | @step k u v ru j d ih =>
    obtain ⟨m, q⟩ := ih
    have du : D u := ru.or.elim (fun e => e ▸ hx) id
    have s1 : Rc g D v 1 u := .step .zero (by rw [o.sym']; exact j) du
    exact s1.trans q
open Classical in
theorem dirac {g : Graph} (o : Ok g) (no : ∀ k, 4 ≤ k → rings g k = []) : ∀ (m : Nat) (S : List Nat), S.length ≤ m → (∀ u ∈ S, u < g.length) → ∀ v ∈ S, ∀ w ∈ S, w ≠ v → joined g v w = false →
    ∃ c ∈ S, c ≠ v ∧ joined g v c = false ∧ Simp g S c
  | 0, S, hS, _, v, hv, _, _, _, _ => by
    cases S with
    | nil => cases hv
    | cons a S => simp at hS
  | m + 1, S, hS, hlt, v, hv, w, hw, hwv, nvw => by
    -- those that aren't joined with v; the part of w among them
    let D : Nat → Prop := fun u => u ∈ S ∧ joined g v u = false ∧ u ≠ v
    let C : Nat → Prop := fun u => D u ∧ ∃ k, Rc g D w k u
    let A : Nat → Prop := fun a => a ∈ S ∧ joined g v a = true ∧ ∃ c, C c ∧ joined g a c = true
    have Dw : D w := ⟨hw, nvw, hwv⟩
    have Cw : C w := ⟨Dw, 0, .zero⟩
    let T : List Nat := S.filter fun u => decide (C u ∨ A u)
    have memT : ∀ u, u ∈ T ↔ C u ∨ A u := fun u => by
      show u ∈ S.filter _ ↔ _
      rw [List.mem_filter, decide_eq_true_eq]
      refine ⟨fun h => h.2, fun h => ⟨h.elim (fun q => q.1.1) fun q => q.1, h⟩⟩
    have lenT : T.length ≤ m := by
      have h1 : T.length < S.length := by
        show (S.filter _).length < _
        refine List.length_filter_lt_length_iff_exists.mpr ⟨v, hv, ?_⟩
        rw [decide_eq_true_eq]
        rintro (h | h)
        · exact h.1.2.2 rfl
        · have h5 : joined g v v = true := h.2.1
          rw [o.self'] at h5
          cases h5
      omega
    have ltT : ∀ u ∈ T, u < g.length := fun u hu => hlt u (List.mem_filter.mp hu).1
    -- A is a clique
    have clq : ∀ a b, A a → A b → a ≠ b → joined g a b = true := fun a b ha hb hab => by
      cases e : joined g a b with
      | true => rfl
      | false =>
        exfalso
        obtain ⟨_, va, c, Cc, ac⟩ := ha
        obtain ⟨_, vb, d, Cd, bd⟩ := hb
        obtain ⟨k1, r1⟩ := Cc.2
        obtain ⟨k2, r2⟩ := Cd.2
        obtain ⟨k3, r3⟩ := r1.symm o Dw
        obtain ⟨k4, r4⟩ := r3.trans r2
        have s1 : Rc g (fun u => D u ∨ u = b) a 1 c := .step .zero ac (.inl Cc.1)
        obtain ⟨k5, r5⟩ := s1.trans (r4.mono fun u hu => .inl hu)
        have r6 : Rc g (fun u => D u ∨ u = b) a (k5 + 1) b := .step r5 (by rw [o.sym']; exact bd) (.inr rfl)
        obtain ⟨k, hk, q⟩ := ring_of o (D := D) (fun u hu => ⟨hu.2.1, hu.2.2, hlt u hu.1⟩) va vb hab e r6
        exact q (no k hk)
    -- a node of C that leads T leads S
    have fin : ∀ c, C c → Simp g T c → ∃ c ∈ S, c ≠ v ∧ joined g v c = false ∧ Simp g S c := fun c Cc sc => by
      have nb : ∀ a ∈ S, joined g c a = true → a ∈ T := fun a ha hca => by
        rw [memT]
        by_cases q : joined g v a = true
        · exact .inr ⟨ha, q, c, Cc, by rw [o.sym']; exact hca⟩
        · have q' : joined g v a = false := by simpa using q
          by_cases av : a = v
          · subst av
            rw [o.sym', Cc.1.2.1] at hca
            cases hca
          · obtain ⟨k, r⟩ := Cc.2
            exact .inl ⟨⟨ha, q', av⟩, k + 1, .step r hca ⟨ha, q', av⟩⟩
      exact ⟨c, Cc.1.1, Cc.1.2.2, Cc.1.2.1, fun a ha b hb h1 h2 h3 => sc a (nb a ha h1) b (nb b hb h2) h1 h2 h3⟩
    by_cases h1 : ∃ a, A a ∧ ∃ t ∈ T, t ≠ a ∧ joined g a t = false
    · obtain ⟨a, Aa, t, tT, ta, nat⟩ := h1
      obtain ⟨c, cT, ca, nac, sc⟩ := dirac o no m T lenT ltT a ((memT a).mpr (.inr Aa)) t tT ta nat
      rcases (memT c).mp cT with q | q
      · exact fin c q sc
      · rw [clq a c Aa q ca.symm] at nac
        cases nac
    · have all : ∀ a, A a → ∀ t ∈ T, t ≠ a → joined g a t = true := fun a Aa t tT ta => by
        cases e : joined g a t with
        | true => rfl
        | false => exact absurd ⟨a, Aa, t, tT, ta, e⟩ h1
      by_cases h2 : ∃ a, C a ∧ ∃ t, C t ∧ t ≠ a ∧ joined g a t = false
      · obtain ⟨a, Ca, t, Ct, ta, nat⟩ := h2
        obtain ⟨c, cT, ca, nac, sc⟩ := dirac o no m T lenT ltT a ((memT a).mpr (.inl Ca)) t ((memT t).mpr (.inl Ct)) ta nat
        rcases (memT c).mp cT with q | q
        · exact fin c q sc
        · rw [o.sym', all c q a ((memT a).mpr (.inl Ca)) ca.symm] at nac
          cases nac
      · refine fin w Cw fun a ha b hb _ _ hab => ?_
        rcases (memT a).mp ha with p | p
        · rcases (memT b).mp hb with q | q
          · cases e : joined g a b with
            | true => rfl
            | false => exact absurd ⟨a, p, b, q, hab.symm, e⟩ h2
          · rw [o.sym']; exact all b q a ha hab
        · exact all a p b hb hab.symm
theorem leader {g : Graph} (o : Ok g) (no : ∀ k, 4 ≤ k → rings g k = []) (S : List Nat) (hlt : ∀ u ∈ S, u < g.length) (hne : S ≠ []) : ∃ c ∈ S, Simp g S c := by
  by_cases h : ∃ v ∈ S, ∃ w ∈ S, w ≠ v ∧ joined g v w = false
  · obtain ⟨v, hv, w, hw, hwv, e⟩ := h
    obtain ⟨c, hc, _, _, sc⟩ := dirac o no S.length S (Nat.le_refl _) hlt v hv w hw hwv e
    exact ⟨c, hc, sc⟩
  · obtain ⟨c, hc⟩ := List.exists_mem_of_ne_nil S hne
    refine ⟨c, hc, fun a ha b hb _ _ hab => ?_⟩
    cases e : joined g a b with
    | true => rfl
    | false => exact absurd ⟨a, ha, b, hb, hab.symm, e⟩ h
theorem simplicial_iff {g : Graph} {S : List Nat} {c : Nat} : simplicial g S c = true ↔ Simp g S c := by
  unfold simplicial Simp
  simp only [List.all_eq_true, List.mem_filter, Bool.or_eq_true, beq_iff_eq]
  constructor
  · intro h a ha b hb h1 h2 h3
    rcases h a ⟨ha, h1⟩ b ⟨hb, h2⟩ with q | q
    · exact absurd q h3
    · exact q
  · intro h a ha b hb
    by_cases e : a = b
    · exact .inl e
    · exact .inr (h a ha.1 b hb.1 ha.2 hb.2 e)
end Gm

end
section
/-! chordal: the first ring by length, the order -/
namespace Gm
open Gg
theorem opn_op (g : Graph) : ∀ (m : Nat) (r : Row), r ∈ opn g m → Op g r
  | 0, r, h => by
    have : r = [] := by simpa [opn, lv] using h
    rw [this]; exact .nil
  | m + 1, r, h => by
    unfold opn at h
    rw [lv_snoc] at h
    unfold more at h
    obtain ⟨s, hs, h2⟩ := List.mem_flatMap.mp h
    obtain ⟨v, hv, rfl⟩ := List.mem_map.mp h2
    obtain ⟨h3, h4⟩ := List.mem_filter.mp hv
    rw [Bool.and_eq_true] at h4
    exact .snoc (opn_op g m s hs) (List.mem_range.mp h3) (by simpa using h4.1) h4.2
theorem rings_mem {g : Graph} {k : Nat} {r : Row} (h : r ∈ rings g k) : ∃ s v, r = s ++ [v] ∧ s ∈ opn g (k - 1) ∧ v < g.length ∧ v ∉ s ∧ bareNext g k s v = true := by
  unfold rings more at h
  obtain ⟨s, hs, h2⟩ := List.mem_flatMap.mp h
  obtain ⟨v, hv, rfl⟩ := List.mem_map.mp h2
  obtain ⟨h3, h4⟩ := List.mem_filter.mp hv
  rw [Bool.and_eq_true] at h4
  exact ⟨s, v, rfl, hs, List.mem_range.mp h3, by simpa using h4.1, h4.2⟩
theorem rings_nodup {g : Graph} {k : Nat} {r : Row} (h : r ∈ rings g k) : r.Nodup ∧ ∀ u ∈ r, u < g.length := by
  obtain ⟨s, v, rfl, hs, hv, hn, _⟩ := rings_mem h
  have o := opn_op g _ s hs
  refine ⟨?_, fun u hu => ?_⟩
  · rw [List.nodup_append]
    refine ⟨o.nodup, by simp, fun a ha b hb e => ?_⟩
    rw [List.mem_singleton.mp hb] at e
    exact hn (e ▸ ha)
  · rcases List.mem_append.mp hu with q | q
    · exact o.lt u q
    · rw [List.mem_singleton.mp q]; exact hv
theorem rings_big {g : Graph} {k : Nat} (h1 : 1 ≤ k) (h : g.length < k) : rings g k = [] := by
  rw [List.eq_nil_iff_forall_not_mem]
  intro r hr
  obtain ⟨a, b⟩ := rings_nodup hr
  have := nodup_len g.length r a b
  rw [rings_len h1 r hr] at this
  omega
/-- the first ring of the lengths that are asked -/
def fst (g : Graph) (p : Nat → Bool) (n : Nat) : Option Row := ((List.range (n + 1)).filter fun k => decide (3 ≤ k) && p k).findSome? fun k => (rings g k).head?
theorem fst_succ (g : Graph) (p : Nat → Bool) (n : Nat) : fst g p (n + 1) = (fst g p n).or (if (decide (3 ≤ n + 1) && p (n + 1)) = true then (rings g (n + 1)).head? else none) := by
  unfold fst
  rw [List.range_succ (n := n + 1), List.filter_append, List.findSome?_append]
  congr 1
  by_cases h : (decide (3 ≤ n + 1) && p (n + 1)) = true
  · rw [if_pos h, List.filter_cons_of_pos (p := fun k => decide (3 ≤ k) && p k) h]
    rw [List.filter_nil, List.findSome?_cons, List.findSome?_nil]
    cases (rings g (n + 1)).head? <;> rfl
  · rw [if_neg h, List.filter_cons_of_neg (p := fun k => decide (3 ≤ k) && p k) h]
    rfl
theorem fst_none (g : Graph) (p : Nat → Bool) : ∀ n, (∀ k, 3 ≤ k → k ≤ n → p k = true → rings g k = []) → fst g p n = none
  | 0, _ => rfl
  | n + 1, h => by
    rw [fst_succ, fst_none g p n fun k h1 h2 => h k h1 (by omega), Option.none_or]
    split
    · rename_i q
      rw [Bool.and_eq_true, decide_eq_true_eq] at q
      rw [h (n + 1) q.1 (Nat.le_refl _) q.2]; rfl
    · rfl
theorem fst_hit (g : Graph) (p : Nat → Bool) {L : Nat} {r : Row} (h3 : 3 ≤ L) (hp : p L = true) (hr : (rings g L).head? = some r) (h : ∀ k, 3 ≤ k → k < L → p k = true → rings g k = []) : ∀ n, L ≤ n → fst g p n = some r
  | 0, hn => by omega
  | n + 1, hn => by
    rw [fst_succ]
    rcases Nat.lt_or_ge n L with q | q
    · have : L = n + 1 := by omega
      subst this
      rw [fst_none g p n fun k h1 h2 => h k h1 (by omega), if_pos (by rw [hp]; simp; omega), hr]; rfl
    · rw [fst_hit g p h3 hp hr h n q]; rfl
theorem none_of_fst {g : Graph} {p : Nat → Bool} {n : Nat} (h : fst g p n = none) : ∀ k, 3 ≤ k → k ≤ n → p k = true → rings g k = [] := by
  intro k h3 hk hp
  unfold fst at h
  rw [List.findSome?_eq_none_iff] at h
  have := h k (List.mem_filter.mpr ⟨List.mem_range.mpr (by omega), by rw [hp]; simp [h3]⟩)
  simpa using this
/-- what the program asks of a length -/
def want (s t : Nat) (k : Nat) : Bool := decide (s ≤ k) && decide ((k - s) % t = 0)
theorem lens4 : ∀ n, n ≤ 8 → [4, 5, 6, 7, 8].filter (fun k => decide (k ≤ n)) = (List.range (n + 1)).filter fun k => decide (3 ≤ k) && want 4 1 k := by decide
theorem lens3 : ∀ n, n ≤ 8 → [3, 5, 7].filter (fun k => decide (k ≤ n)) = (List.range (n + 1)).filter fun k => decide (3 ≤ k) && want 3 2 k := by decide
theorem findSome_congr {α β : Type} {f h : α → Option β} : ∀ l : List α, (∀ a ∈ l, f a = h a) → l.findSome? f = l.findSome? h
  | [], _ => rfl
  | a :: l, e => by
    rw [List.findSome?_cons, List.findSome?_cons, e a List.mem_cons_self, findSome_congr l fun b hb => e b (List.mem_cons_of_mem _ hb)]
theorem chordlessRing_eq {g : Graph} (o : Ok g) : chordlessRing g = fst g (want 4 1) g.length := by
  unfold chordlessRing firstOf fst
  rw [lens4 g.length o.le]
  refine findSome_congr _ fun k hk => ?_
  have := (List.mem_filter.mp hk).2
  rw [Bool.and_eq_true, decide_eq_true_eq] at this
  exact chordless_head g (by omega)
theorem no_rings {g : Graph} (h : fst g (want 4 1) g.length = none) : ∀ k, 4 ≤ k → rings g k = [] := by
  intro k hk
  rcases Nat.lt_or_ge g.length k with q | q
  · exact rings_big (by omega) q
  · refine none_of_fst h k (by omega) q ?_
    unfold want
    simp [hk, Nat.mod_one]
theorem find_least {p : Nat → Bool} : ∀ {l : List Nat} {m : Nat}, l.Pairwise (· < ·) → m ∈ l → p m = true → (∀ y ∈ l, p y = true → m ≤ y) → l.find? p = some m
  | [], _, _, h, _, _ => by cases h
  | a :: l, m, hp, hm, pm, hl => by
    rw [List.find?_cons]
    cases e : p a with
    | true =>
      have h1 := hl a List.mem_cons_self e
      rcases List.mem_cons.mp hm with q | q
      · rw [q]
      · have := (List.pairwise_cons.mp hp).1 m q
        omega
    | false =>
      rcases List.mem_cons.mp hm with q | q
      · rw [q, e] at pm; cases pm
      · exact find_least (List.pairwise_cons.mp hp).2 q pm fun y hy => hl y (List.mem_cons_of_mem _ hy)
theorem filter_ne_len : ∀ {l : List Nat} {m : Nat}, l.Nodup → m ∈ l → (l.filter fun u => u != m).length + 1 = l.length
  | [], _, _, h => by cases h
  | a :: l, m, hn, hm => by
    have hl := List.nodup_cons.mp hn
    by_cases e : a = m
    · subst e
      rw [List.filter_cons_of_neg (by simp), List.filter_eq_self.mpr]
      · rfl
      · intro u hu
        simp
        exact fun e => hl.1 (e ▸ hu)
    · rw [List.filter_cons_of_pos (by simp [e])]
      have := filter_ne_len hl.2 ((List.mem_cons.mp hm).resolve_left fun q => e q.symm)
      simp only [List.length_cons]
      omega
theorem peel_step {g : Graph} {f m : Nat} {left : List Nat} (hs : left.Pairwise (· < ·)) (hm : m ∈ left) (h1 : simplicial g left m = true) (h2 : ∀ y ∈ left, simplicial g left y = true → m ≤ y) :
    peel g (f + 1) left = m :: peel g f (left.filter fun u => u != m) := by
  show (match left.find? (fun v => simplicial g left v) with
    | some v => v :: peel g f (left.filter (fun u => u != v))
    | none => []) = _
  rw [find_least (p := fun v => simplicial g left v) hs hm h1 h2]
theorem lead_some {g : Graph} (o : Ok g) (h : fst g (want 4 1) g.length = none) {left : List Nat} (hl : ∀ u ∈ left, u < g.length) (hne : left ≠ []) : ∃ c ∈ left, simplicial g left c = true := by
  obtain ⟨c, hc, hs⟩ := leader o (no_rings h) left hl hne
  exact ⟨c, hc, simplicial_iff.mpr hs⟩
theorem chordal_eq (ns : List Int) : PyWrgood.chordal ns = if isGraph (WrgoodNeutral.graph ns) = true then (match chordlessRing (WrgoodNeutral.graph ns) with
    | some r => 0 :: r.map fun (k : Nat) => (k : Int)
    | none => 1 :: (order (WrgoodNeutral.graph ns)).map fun (k : Nat) => (k : Int)) else [-1] := by
  show WrgoodNeutral.told (if isGraph (WrgoodNeutral.graph ns) = true then Wrgood.kindOf (chordlessRing (WrgoodNeutral.graph ns)) (order (WrgoodNeutral.graph ns)) else .no (-1)) = _
  by_cases h : isGraph (WrgoodNeutral.graph ns) = true
  · rw [if_pos h, if_pos h]
    cases chordlessRing (WrgoodNeutral.graph ns) <;> rfl
  · rw [if_neg h, if_neg h]; rfl
end Gm

end
section
/-! rings of odd length: the first has no chord -/
namespace Gm
open Gg
def top : Row → Nat → Bool := fun _ _ => true
def okRow (may : Row → Nat → Bool) (r : Row) : Bool := (List.range r.length).all fun i => may (r.take i) (r.getD i 0)
theorem okRow_snoc (may : Row → Nat → Bool) (r : Row) (v : Nat) : okRow may (r ++ [v]) = (okRow may r && may r v) := by
  unfold okRow
  rw [List.length_append]
  show (List.range (r.length + 1)).all _ = _
  rw [List.range_succ, List.all_append, List.all_cons, List.all_nil, Bool.and_true]
  have e1 : may ((r ++ [v]).take r.length) ((r ++ [v]).getD r.length 0) = may r v := by
    rw [List.take_left, List.getD_eq_getElem?_getD, List.getElem?_append_right (Nat.le_refl _)]
    simp
  rw [e1]
  congr 1
  rw [Bool.eq_iff_iff, List.all_eq_true, List.all_eq_true]
  have e2 : ∀ i ∈ List.range r.length, may ((r ++ [v]).take i) ((r ++ [v]).getD i 0) = may (r.take i) (r.getD i 0) := fun i hi => by
    have hi := List.mem_range.mp hi
    rw [List.take_append_of_le_length (by omega), List.getD_eq_getElem?_getD, List.getElem?_append_left hi, List.getD_eq_getElem?_getD]
  exact ⟨fun h i hi => by rw [← e2 i hi]; exact h i hi, fun h i hi => by rw [e2 i hi]; exact h i hi⟩
theorem more_top {g : Graph} {may : Row → Nat → Bool} {q : Row → Bool} : ∀ rows : List Row, (∀ r ∈ rows, ∀ v, q (r ++ [v]) = (q r && may r v)) → (more g top rows).filter q = more g may (rows.filter q)
  | [], _ => rfl
  | r :: rows, h => by
    have ih := more_top (g := g) rows fun s hs => h s (List.mem_cons_of_mem _ hs)
    have e : more g top (r :: rows) = more g top [r] ++ more g top rows := by rw [← more_append]; rfl
    rw [e, List.filter_append, ih]
    cases hq : q r with
    | true =>
      rw [List.filter_cons_of_pos hq]
      have e2 : more g may (r :: rows.filter q) = more g may [r] ++ more g may (rows.filter q) := by rw [← more_append]; rfl
      rw [e2]
      congr 1
      refine more_filter fun s hs v => ?_
      rw [List.mem_singleton.mp hs, h r List.mem_cons_self v, hq]
      show (true && (true && _)) = _
      rfl
    | false =>
      rw [List.filter_cons_of_neg (by rw [hq]; simp)]
      have e3 : (more g top [r]).filter q = [] := by
        rw [List.filter_eq_nil_iff]
        intro s hs
        unfold more at hs
        obtain ⟨t, ht, h2⟩ := List.mem_flatMap.mp hs
        obtain ⟨v, _, rfl⟩ := List.mem_map.mp h2
        rw [List.mem_singleton.mp ht, h r List.mem_cons_self v, hq]; simp
      rw [e3]; rfl
theorem lv_filter (g : Graph) (may : Row → Nat → Bool) : ∀ d, lv g may d [[]] = (lv g top d [[]]).filter (okRow may)
  | 0 => rfl
  | d + 1 => by
    rw [lv_snoc, lv_snoc, lv_filter g may d]
    exact (more_top _ fun r _ v => okRow_snoc may r v).symm
theorem mem_top (g : Graph) : ∀ (d : Nat) (r : Row), r ∈ lv g top d [[]] → r.length = d ∧ r.Nodup ∧ ∀ u ∈ r, u < g.length
  | 0, r, h => by
    have : r = [] := by simpa [lv] using h
    rw [this]; exact ⟨rfl, List.nodup_nil, fun _ hu => nomatch hu⟩
  | d + 1, r, h => by
    rw [lv_snoc] at h
    unfold more at h
    obtain ⟨s, hs, h2⟩ := List.mem_flatMap.mp h
    obtain ⟨v, hv, rfl⟩ := List.mem_map.mp h2
    obtain ⟨h3, h4⟩ := List.mem_filter.mp hv
    rw [Bool.and_eq_true] at h4
    have hvs : v ∉ s := by simpa using h4.1
    obtain ⟨a, b, c⟩ := mem_top g d s hs
    refine ⟨by rw [List.length_append, a]; rfl, ?_, fun u hu => ?_⟩
    · rw [List.nodup_append]
      refine ⟨b, by simp, fun x hx y hy e => ?_⟩
      rw [List.mem_singleton.mp hy] at e
      exact hvs (e ▸ hx)
    · rcases List.mem_append.mp hu with q | q
      · exact c u q
      · rw [List.mem_singleton.mp q]; exact List.mem_range.mp h3
theorem top_mem (g : Graph) : ∀ (r : Row), r.Nodup → (∀ u ∈ r, u < g.length) → r ∈ lv g top r.length [[]] := by
  intro r
  induction h : r.length generalizing r with
  | zero =>
    intro _ _
    rw [List.length_eq_zero_iff.mp h]
    exact List.mem_singleton.mpr rfl
  | succ d ih =>
    intro hn hl
    obtain ⟨s, v, rfl⟩ : ∃ s v, r = s ++ [v] := by
      refine ⟨r.dropLast, r.getLast (by intro e; rw [e] at h; simp at h), (List.dropLast_concat_getLast _).symm⟩
    rw [List.length_append] at h
    have hn' := List.nodup_append.mp hn
    rw [lv_snoc]
    refine mem_more (ih s (by simpa using h) hn'.1 fun u hu => hl u (List.mem_append_left _ hu)) (hl v (by simp)) (fun q => hn'.2.2 v q v (by simp) rfl) rfl
/-! ### by places -/
theorem take_cons {r : Row} {i : Nat} (h1 : 1 ≤ i) (h2 : i ≤ r.length) : ∃ b, r.take i = r.getD 0 0 :: b ∧ (r.take i).getLastD (r.getD 0 0) = r.getD (i - 1) 0 ∧ b.length = i - 1 ∧ ∀ u, u ∈ b.dropLast ↔ ∃ j, 1 ≤ j ∧ j + 1 < i ∧ r.getD j 0 = u := by
  cases r with
  | nil => simp at h2; omega
  | cons a t =>
    obtain ⟨i, rfl⟩ : ∃ k, i = k + 1 := ⟨i - 1, by omega⟩
    have ht : i ≤ t.length := by simpa using h2
    refine ⟨t.take i, rfl, ?_, ?_, fun u => ?_⟩
    · rw [List.getLastD_eq_getLast?, List.getLast?_eq_getElem?, List.length_take, List.getElem?_take]
      simp only [List.length_cons]
      rw [if_pos (by omega), List.getD_eq_getElem?_getD]
      have : min (i + 1) (t.length + 1) - 1 = i := by omega
      rw [this]
      show Option.getD ((a :: t)[i]?) a = Option.getD ((a :: t)[i]?) 0
      have hlt : i < (a :: t).length := by simp; omega
      rw [List.getElem?_eq_getElem hlt]; rfl
    · rw [List.length_take]; omega
    · rw [List.dropLast_eq_take, List.length_take, List.take_take]
      have : min (min i t.length - 1) i = i - 1 := by omega
      rw [this, List.mem_take_iff_getElem]
      constructor
      · rintro ⟨j, hj, e⟩
        refine ⟨j + 1, by omega, by omega, ?_⟩
        rw [List.getD_eq_getElem?_getD]
        show Option.getD ((a :: t)[j + 1]?) 0 = u
        rw [List.getElem?_cons_succ, List.getElem?_eq_getElem (by omega), ← e]; rfl
      · rintro ⟨j, h1, h2, e⟩
        obtain ⟨j, rfl⟩ : ∃ k, j = k + 1 := ⟨j - 1, by omega⟩
        refine ⟨j, by omega, ?_⟩
        rw [List.getD_eq_getElem?_getD, List.getElem?_cons_succ, List.getElem?_eq_getElem (by omega)] at e
        exact e
theorem ring_iff {g : Graph} {k : Nat} {r : Row} (hk : 2 ≤ k) (hl : r.length = k) : okRow (ringNext g k) r = true ↔ (∀ i, i + 1 < k → joined g (r.getD i 0) (r.getD (i + 1) 0) = true) ∧ joined g (r.getD 0 0) (r.getD (k - 1) 0) = true := by
  have key : ∀ i, 1 ≤ i → i < k → ringNext g k (r.take i) (r.getD i 0) = (joined g (r.getD (i - 1) 0) (r.getD i 0) && (decide (i + 1 < k) || joined g (r.getD 0 0) (r.getD i 0))) := fun i h1 h2 => by
    obtain ⟨b, e1, e2, e3, _⟩ := take_cons (r := r) h1 (by omega)
    have hlen : (r.take i).length = i := by rw [List.length_take]; omega
    unfold ringNext
    rw [e1] at e2 hlen ⊢
    dsimp only
    rw [e2, hlen]
  unfold okRow
  rw [List.all_eq_true]
  constructor
  · intro h
    have h' : ∀ i, 1 ≤ i → i < k → joined g (r.getD (i - 1) 0) (r.getD i 0) = true ∧ (decide (i + 1 < k) || joined g (r.getD 0 0) (r.getD i 0)) = true := fun i h1 h2 => by
      have := h i (List.mem_range.mpr (by omega))
      rw [key i h1 h2, Bool.and_eq_true] at this
      exact this
    refine ⟨fun i hi => (h' (i + 1) (by omega) hi).1, ?_⟩
    have := (h' (k - 1) (by omega) (by omega)).2
    rw [Bool.or_eq_true, decide_eq_true_eq] at this
    exact this.resolve_left (by omega)
  · rintro ⟨h1, h2⟩ i hi
    have hi := List.mem_range.mp hi
    by_cases e : i = 0
    · subst e; rfl
    · rw [key i (by omega) (by omega), Bool.and_eq_true]
      have := h1 (i - 1) (by omega)
      rw [show i - 1 + 1 = i by omega] at this
      refine ⟨this, ?_⟩
      by_cases q : i + 1 < k
      · simp [q]
      · rw [show i = k - 1 by omega, h2]; simp
theorem bare_of {g : Graph} {k : Nat} {r : Row} (hk : 3 ≤ k) (hl : r.length = k) (h : okRow (ringNext g k) r = true) (no : ∀ i j, i + 1 < j → j < k → ¬ (i = 0 ∧ j = k - 1) → joined g (r.getD i 0) (r.getD j 0) = false) : okRow (bareNext g k) r = true := by
  obtain ⟨h1, h2⟩ := (ring_iff (by omega) hl).mp h
  unfold okRow
  rw [List.all_eq_true]
  intro i hi
  have hi := List.mem_range.mp hi
  by_cases e : i = 0
  · subst e; rfl
  · obtain ⟨b, e1, e2, e3, e4⟩ := take_cons (r := r) (i := i) (by omega) (by omega)
    have hlen : (r.take i).length = i := by rw [List.length_take]; omega
    unfold bareNext
    rw [e1] at e2 hlen ⊢
    dsimp only
    rw [e2, hlen, Bool.and_eq_true, Bool.and_eq_true]
    have q := h1 (i - 1) (by omega)
    rw [show i - 1 + 1 = i by omega] at q
    refine ⟨q, ?_, ?_⟩
    · rw [List.all_eq_true]
      intro u hu
      obtain ⟨j, hj1, hj2, rfl⟩ := (e4 u).mp hu
      rw [no j i hj2 (by omega) (by omega)]; rfl
    · by_cases q : i + 1 = k
      · rw [if_pos q, show i = k - 1 by omega]; exact h2
      · rw [if_neg q]
        by_cases e5 : i = 1
        · have : b = [] := by rw [← List.length_eq_zero_iff]; omega
          rw [this]; rfl
        · rw [no 0 i (by omega) (by omega) (by omega)]; simp
theorem ring_of_bare {g : Graph} {k : Nat} {r : Row} (hl : r.length = k) (h : okRow (bareNext g k) r = true) : okRow (ringNext g k) r = true := by
  unfold okRow at h ⊢
  rw [List.all_eq_true] at h ⊢
  intro i hi
  have q := h i hi
  have hi := List.mem_range.mp hi
  have hs : (r.take i).length + 1 ≤ k := by rw [List.length_take]; omega
  revert q hs
  generalize r.getD i 0 = v
  generalize r.take i = s
  cases s with
  | nil => intro _ _; rfl
  | cons a b =>
    intro h hs
    unfold bareNext at h
    unfold ringNext
    dsimp only at h ⊢
    rw [Bool.and_eq_true, Bool.and_eq_true] at h
    rw [Bool.and_eq_true, Bool.or_eq_true, decide_eq_true_eq]
    obtain ⟨h1, _, h3⟩ := h
    refine ⟨h1, ?_⟩
    by_cases e : (a :: b).length + 1 = k
    · rw [if_pos e] at h3
      exact .inr h3
    · exact .inl (by omega)
/-! ### closed walks -/
structure Wlk (g : Graph) (w : Nat → Nat) (L : Nat) : Prop where
  st : ∀ i, i < L → joined g (w i) (w (i + 1)) = true
/-- all rings of k nodes -/
def rr (g : Graph) (k : Nat) : List Row := lv g (fun r v => ringNext g k r v) k [[]]
theorem getD_map (w : Nat → Nat) {L i : Nat} (h : i < L) : ((List.range L).map w).getD i 0 = w i := by
  rw [List.getD_eq_getElem?_getD, List.getElem?_map, List.getElem?_range h]; rfl
theorem rr_of {g : Graph} (o : Ok g) {w : Nat → Nat} {L : Nat} (h : Wlk g w L) (hc : w L = w 0) (hL : 2 ≤ L) (nd : ∀ i j, i < j → j < L → w i ≠ w j) : rr g L ≠ [] := by
  have hm : (List.range L).map w ∈ rr g L := by
    unfold rr
    rw [lv_filter]
    refine List.mem_filter.mpr ⟨?_, ?_⟩
    · have := top_mem g ((List.range L).map w) ?_ ?_
      · rw [List.length_map, List.length_range] at this; exact this
      · rw [List.nodup_iff_pairwise_ne, List.pairwise_map]
        refine List.Pairwise.imp_of_mem ?_ (List.pairwise_lt_range (n := L))
        intro a b ha hb hab
        exact nd a b hab (List.mem_range.mp hb)
      · intro u hu
        obtain ⟨i, hi, rfl⟩ := List.mem_map.mp hu
        exact (o.joined_lt (h.st i (List.mem_range.mp hi))).1
    · refine (ring_iff hL (by rw [List.length_map, List.length_range])).mpr ⟨fun i hi => ?_, ?_⟩
      · rw [getD_map w (by omega), getD_map w hi]
        exact h.st i (by omega)
      · rw [getD_map w (by omega), getD_map w (by omega), o.sym', ← hc]
        have := h.st (L - 1) (by omega)
        rw [show L - 1 + 1 = L by omega] at this
        exact this
  intro e
  rw [e] at hm
  cases hm
theorem odd_closed {g : Graph} (o : Ok g) : ∀ (L : Nat) (w : Nat → Nat), Wlk g w L → w L = w 0 → L % 2 = 1 → ∃ k, 3 ≤ k ∧ k ≤ L ∧ k % 2 = 1 ∧ rr g k ≠ [] := by
  intro L
  induction L using Nat.strongRecOn with
  | _ L ih =>
    intro w h hc ho
    by_cases q : ∃ i j, i < j ∧ j < L ∧ w i = w j
    · obtain ⟨i, j, hij, hj, e⟩ := q
      by_cases p : (j - i) % 2 = 1
      · obtain ⟨k, h1, h2, h3, h4⟩ := ih (j - i) (by omega) (fun t => w (i + t)) ⟨fun t ht => h.st (i + t) (by omega)⟩ (by
          show w (i + (j - i)) = w (i + 0)
          rw [show i + (j - i) = j by omega]; exact e.symm) p
        exact ⟨k, h1, by omega, h3, h4⟩
      · obtain ⟨k, h1, h2, h3, h4⟩ := ih (L - (j - i)) (by omega) (fun t => if t ≤ i then w t else w (t + (j - i))) ⟨fun t ht => by
          by_cases a : t + 1 ≤ i
          · rw [if_pos (by omega), if_pos a]
            exact h.st t (by omega)
          · rw [if_neg a]
            by_cases b : t ≤ i
            · have : t = i := by omega
              subst this
              rw [if_pos b, e, show t + 1 + (j - t) = j + 1 by omega]
              exact h.st j hj
            · rw [if_neg b, show t + 1 + (j - i) = t + (j - i) + 1 by omega]
              exact h.st _ (by omega)⟩ (by
          rw [if_pos (Nat.zero_le _)]
          by_cases a : L - (j - i) ≤ i
          · omega
          · rw [if_neg a, show L - (j - i) + (j - i) = L by omega]; exact hc) (by omega)
        exact ⟨k, h1, by omega, h3, h4⟩
    · have h3 : 3 ≤ L := by
        rcases Nat.lt_or_ge L 3 with a | a
        · have : L = 1 := by omega
          subst this
          have := h.st 0 (by omega)
          rw [hc, o.self'] at this
          cases this
        · exact a
      exact ⟨L, h3, Nat.le_refl _, ho, rr_of o h hc (by omega) fun i j hij hj e => q ⟨i, j, hij, hj, e⟩⟩
theorem rr_get {g : Graph} {k : Nat} {r : Row} (hk : 2 ≤ k) (h : r ∈ rr g k) : r.length = k ∧ r.Nodup ∧ (∀ u ∈ r, u < g.length) ∧ (∀ i, i + 1 < k → joined g (r.getD i 0) (r.getD (i + 1) 0) = true) ∧ joined g (r.getD 0 0) (r.getD (k - 1) 0) = true := by
  unfold rr at h
  rw [lv_filter] at h
  obtain ⟨h1, h2⟩ := List.mem_filter.mp h
  obtain ⟨a, b, c⟩ := mem_top g k r h1
  obtain ⟨d, e⟩ := (ring_iff hk a).mp h2
  exact ⟨a, b, c, d, e⟩
theorem rings_lv (g : Graph) {k : Nat} (h : 1 ≤ k) : rings g k = lv g (fun r v => bareNext g k r v) k [[]] := by
  unfold rings opn
  rw [← lv_open g k (k - 1) (by omega)]
  have e : k = (k - 1) + 1 := by omega
  conv => rhs; rw [e, lv_snoc, ← e]
/-- a ring of odd length with a chord: a shorter one of odd length is there -/
theorem chord_odd {g : Graph} (o : Ok g) {k : Nat} {r : Row} (hk : 3 ≤ k) (ho : k % 2 = 1) (h : r ∈ rr g k) {i j : Nat} (hij : i + 1 < j) (hj : j < k) (hn : ¬ (i = 0 ∧ j = k - 1)) (hc : joined g (r.getD i 0) (r.getD j 0) = true) :
    ∃ l, 3 ≤ l ∧ l < k ∧ l % 2 = 1 ∧ rr g l ≠ [] := by
  obtain ⟨_, _, _, st, cl⟩ := rr_get (by omega) h
  by_cases p : (j - i) % 2 = 0
  · obtain ⟨l, h1, h2, h3, h4⟩ := odd_closed o (j - i + 1) (fun t => if t ≤ j - i then r.getD (i + t) 0 else r.getD i 0) ⟨fun t ht => by
      rw [if_pos (by omega)]
      by_cases a : t + 1 ≤ j - i
      · rw [if_pos a]
        exact st (i + t) (by omega)
      · rw [if_neg a, show i + t = j by omega, o.sym']
        exact hc⟩ (by
        rw [if_neg (by omega), if_pos (Nat.zero_le _)]; rfl) (by omega)
    exact ⟨l, h1, by omega, h3, h4⟩
  · -- j, .., k - 1, 0, .., i, j
    obtain ⟨l, h1, h2, h3, h4⟩ := odd_closed o (k - j + i + 1) (fun t => if t < k - j then r.getD (j + t) 0 else if t ≤ k - j + i then r.getD (t - (k - j)) 0 else r.getD j 0) ⟨fun t ht => by
      by_cases a : t < k - j
      · rw [if_pos a]
        by_cases b : t + 1 < k - j
        · rw [if_pos b]
          exact st (j + t) (by omega)
        · rw [if_neg b, if_pos (by omega), show j + t = k - 1 by omega, show t + 1 - (k - j) = 0 by omega, o.sym']
          exact cl
      · rw [if_neg a, if_pos (show t ≤ k - j + i by omega), if_neg (show ¬ t + 1 < k - j by omega)]
        by_cases b : t + 1 ≤ k - j + i
        · rw [if_pos b, show t + 1 - (k - j) = t - (k - j) + 1 by omega]
          exact st _ (by omega)
        · rw [if_neg b, show t - (k - j) = i by omega]
          exact hc⟩ (by
        rw [if_neg (by omega), if_neg (by omega), if_pos (by omega)]; rfl) (by omega)
    exact ⟨l, h1, by omega, h3, h4⟩
theorem rr_rings {g : Graph} (o : Ok g) {k : Nat} (hk : 3 ≤ k) (ho : k % 2 = 1) (no : ∀ l, 3 ≤ l → l < k → l % 2 = 1 → rr g l = []) : rr g k = rings g k := by
  rw [rings_lv g (by omega)]
  unfold rr
  rw [lv_filter, lv_filter g (fun r v => bareNext g k r v)]
  refine List.filter_congr fun r hr => ?_
  obtain ⟨hl, nd, lt⟩ := mem_top g k r hr
  rw [Bool.eq_iff_iff]
  constructor
  · intro h
    refine bare_of hk hl h fun i j hij hj hn => ?_
    cases e : joined g (r.getD i 0) (r.getD j 0) with
    | false => rfl
    | true =>
      have hm : r ∈ rr g k := by
        unfold rr
        rw [lv_filter]
        exact List.mem_filter.mpr ⟨hr, h⟩
      obtain ⟨l, h1, h2, h3, h4⟩ := chord_odd o hk ho hm hij hj hn e
      exact absurd (no l h1 h2 h3) h4
  · exact ring_of_bare hl
/-- up to a length: the rings of odd length are none, or the chordless ones are none: the same -/
theorem none_odd {g : Graph} (o : Ok g) (k : Nat) : (∀ l, 3 ≤ l → l < k → l % 2 = 1 → rings g l = []) → ∀ l, 3 ≤ l → l < k → l % 2 = 1 → rr g l = [] := by
  intro h l
  induction l using Nat.strongRecOn with
  | _ l ih =>
    intro h1 h2 h3
    rw [rr_rings o h1 h3 fun m a b c => ih m b a (by omega) c]
    exact h l h1 h2 h3
theorem oddRing_eq {g : Graph} (o : Ok g) : oddRing g = fst g (want 3 2) g.length := by
  have e0 : oddRing g = ((List.range (g.length + 1)).filter fun k => decide (3 ≤ k) && want 3 2 k).findSome? fun k => (rr g k).head? := by
    unfold oddRing firstOf
    rw [lens3 g.length o.le]
    refine findSome_congr _ fun k _ => rowOf_lv g _ k
  have wodd : ∀ k, 3 ≤ k → (want 3 2 k = true ↔ k % 2 = 1) := fun k hk => by
    unfold want
    rw [Bool.and_eq_true, decide_eq_true_eq, decide_eq_true_eq]
    omega
  rw [e0]
  unfold fst
  have gen : ∀ n, ((List.range (n + 1)).filter fun k => decide (3 ≤ k) && want 3 2 k).findSome? (fun k => (rr g k).head?) = ((List.range (n + 1)).filter fun k => decide (3 ≤ k) && want 3 2 k).findSome? fun k => (rings g k).head? := by
    intro n
    induction n with
    | zero => rfl
    | succ n ih =>
      rw [List.range_succ (n := n + 1), List.filter_append, List.findSome?_append, List.findSome?_append, ih]
      cases e : ((List.range (n + 1)).filter fun k => decide (3 ≤ k) && want 3 2 k).findSome? fun k => (rings g k).head? with
      | some r => rfl
      | none =>
        rw [Option.none_or, Option.none_or]
        refine findSome_congr _ fun k hk => ?_
        obtain ⟨h1, h2⟩ := List.mem_filter.mp hk
        rw [List.mem_singleton.mp h1] at h2 ⊢
        rw [Bool.and_eq_true, decide_eq_true_eq] at h2
        have h3 := (wodd _ h2.1).mp h2.2
        have hno : ∀ l, 3 ≤ l → l < n + 1 → l % 2 = 1 → rings g l = [] := fun l a b c => none_of_fst (p := want 3 2) (n := n) e l a (by omega) ((wodd l a).mpr c)
        rw [rr_rings o h2.1 h3 (none_odd o (n + 1) hno)]
  exact gen g.length
theorem no_odd {g : Graph} (o : Ok g) (h : fst g (want 3 2) g.length = none) : ∀ k, 3 ≤ k → k % 2 = 1 → rr g k = [] := by
  intro k hk ho
  refine none_odd o (k + 1) (fun l a b c => ?_) k hk (by omega) ho
  rcases Nat.lt_or_ge g.length l with q | q
  · exact rings_big (by omega) q
  · refine none_of_fst h l a q ?_
    unfold want
    rw [Bool.and_eq_true, decide_eq_true_eq, decide_eq_true_eq]
    omega
theorem odd_some {g : Graph} {r : Row} (h : fst g (want 3 2) g.length = some r) : ∃ k, 3 ≤ k ∧ k % 2 = 1 ∧ r ∈ rings g k := by
  unfold fst at h
  obtain ⟨k, hk, e⟩ := List.exists_of_findSome?_eq_some h
  have := (List.mem_filter.mp hk).2
  unfold want at this
  rw [Bool.and_eq_true, Bool.and_eq_true, decide_eq_true_eq, decide_eq_true_eq] at this
  refine ⟨k, this.1, by omega, ?_⟩
  exact List.mem_of_head? e
end Gm

end
section
/-! sides: marks by walks from the least node of each part -/
namespace Gm
open Gg
abbrev Nd (g : Graph) : Nat → Prop := fun u => u < g.length
/-- there's a way -/
abbrev Way (g : Graph) (x k v : Nat) : Prop := Rc g (Nd g) x k v
theorem Way.fn {g : Graph} {x k v : Nat} (h : Way g x k v) : ∃ w : Nat → Nat, Wlk g w k ∧ w 0 = x ∧ w k = v := by
  induction h with
  | zero => exact ⟨fun _ => x, ⟨fun i hi => absurd hi (by omega)⟩, rfl, rfl⟩
  | @step k u v _ j _ ih =>
    obtain ⟨w, h1, h2, h3⟩ := ih
    refine ⟨fun t => if t ≤ k then w t else v, ⟨fun i hi => ?_⟩, by show (if 0 ≤ k then w 0 else v) = x; rw [if_pos (Nat.zero_le _)]; exact h2, by show (if k + 1 ≤ k then w (k + 1) else v) = v; rw [if_neg (by omega)]⟩
    by_cases a : i + 1 ≤ k
    · rw [if_pos (show i ≤ k by omega), if_pos a]
      exact h1.st i (by omega)
    · rw [if_pos (show i ≤ k by omega), if_neg a, show i = k by omega, h3]
      exact j
theorem way_even {g : Graph} (o : Ok g) (no : ∀ k, 3 ≤ k → k % 2 = 1 → rr g k = []) {x k : Nat} (h : Way g x k x) : k % 2 = 0 := by
  obtain ⟨w, h1, h2, h3⟩ := h.fn
  by_cases q : k % 2 = 1
  · obtain ⟨l, a, _, c, d⟩ := odd_closed o k w h1 (by rw [h2, h3]) q
    exact absurd (no l a c) d
  · omega
theorem Way.app {g : Graph} {x k y l z : Nat} (a : Way g x k y) (b : Way g y l z) : Way g x (k + l) z := by
  induction b with
  | zero => exact a
  | step _ j d ih => exact .step ih j d
theorem Way.rev {g : Graph} (o : Ok g) {x k y : Nat} (hx : x < g.length) (a : Way g x k y) : Way g y k x := by
  induction a with
  | zero => exact .zero
  | @step k u v r j d ih =>
    have hu : u < g.length := r.or.elim (fun e => e ▸ hx) id
    have s1 : Way g v 1 u := .step .zero (by rw [o.sym']; exact j) hu
    have := s1.app ih
    rw [Nat.add_comm] at this
    exact this
theorem Way.lt {g : Graph} {x k y : Nat} (hx : x < g.length) (a : Way g x k y) : y < g.length := a.or.elim (fun e => e ▸ hx) id
/-! ### comes -/
def grown (g : Graph) (l : Row) : Row := (nodes g).filter fun v => l.contains v || (all v && l.any fun u => joined g u v)
theorem mem_grown {g : Graph} {l : Row} {v : Nat} : v ∈ grown g l ↔ v < g.length ∧ (v ∈ l ∨ ∃ u ∈ l, joined g u v = true) := by
  unfold grown nodes all
  rw [List.mem_filter, List.mem_range]
  simp
theorem spread_sound (g : Graph) : ∀ (f : Nat) (l : Row) (b : Nat), b ∈ spread g all f l → ∃ a ∈ l, ∃ k, Way g a k b
  | 0, l, b, h => ⟨b, h, 0, .zero⟩
  | f + 1, l, b, h => by
    obtain ⟨a, ha, k, r⟩ := spread_sound g f (grown g l) b h
    obtain ⟨h1, h2 | ⟨u, h2, h3⟩⟩ := mem_grown.mp ha
    · exact ⟨a, h2, k, r⟩
    · have s1 : Way g u 1 a := .step .zero h3 h1
      exact ⟨u, h2, _, s1.app r⟩
theorem spread_keep (g : Graph) : ∀ (f : Nat) (l : Row) (b : Nat), b < g.length → b ∈ l → b ∈ spread g all f l
  | 0, _, _, _, h => h
  | f + 1, l, b, hb, h => spread_keep g f (grown g l) b hb (mem_grown.mpr ⟨hb, .inl h⟩)
theorem spread_add (g : Graph) : ∀ (f e : Nat) (l : Row), spread g all (f + e) l = spread g all e (spread g all f l)
  | 0, e, l => by rw [Nat.zero_add]; rfl
  | f + 1, e, l => by
    rw [show f + 1 + e = (f + e) + 1 by omega]
    exact spread_add g f e (grown g l)
theorem spread_way {g : Graph} {a k b : Nat} (h : Way g a k b) : b ∈ spread g all k [a] := by
  induction h with
  | zero => exact List.mem_singleton.mpr rfl
  | @step k u v r j d ih =>
    rw [spread_add g k 1]
    show v ∈ grown g _
    exact mem_grown.mpr ⟨d, .inr ⟨u, ih, j⟩⟩
theorem comes_iff {g : Graph} {a b : Nat} (ha : a < g.length) : comes g all a b = true ↔ ∃ k, Way g a k b := by
  unfold comes
  rw [Bool.and_eq_true]
  constructor
  · rintro ⟨_, h⟩
    obtain ⟨c, hc, k, r⟩ := spread_sound g _ _ b (by simpa using h)
    rw [List.mem_singleton.mp hc] at r
    exact ⟨k, r⟩
  · rintro ⟨k, r⟩
    refine ⟨rfl, ?_⟩
    obtain ⟨m, rm, hm⟩ := least_of (P := fun k => Way g a k b) r
    obtain ⟨s, os, hl, _⟩ := shortest (D := Nd g) ha (fun _ h => h) m b rm hm
    have := nodup_len g.length s os.nodup os.lt
    have h1 := spread_way rm
    have h2 := spread_keep g (g.length - m) _ b (rm.lt ha) h1
    rw [← spread_add, show m + (g.length - m) = g.length by omega] at h2
    simpa using h2
theorem least_iff {g : Graph} {v : Nat} (hv : v < g.length) : least g v = true ↔ ∀ u k, Way g v k u → v ≤ u := by
  unfold least
  rw [List.all_eq_true]
  constructor
  · intro h u k r
    rcases Nat.lt_or_ge u v with q | q
    · have := h u (List.mem_range.mpr q)
      rw [(comes_iff hv).mpr ⟨k, r⟩] at this
      cases this
    · exact q
  · intro h u hu
    cases e : comes g all v u with
    | false => rfl
    | true =>
      obtain ⟨k, r⟩ := (comes_iff hv).mp e
      have := h u k r
      have := List.mem_range.mp hu
      omega
theorem mem_marks : ∀ (n : Nat) (r : Row), r ∈ marks n ↔ r.length = n ∧ ∀ x ∈ r, x = 0 ∨ x = 1
  | 0, r => by
    show r ∈ [[]] ↔ _
    rw [List.mem_singleton]
    constructor
    · rintro rfl; exact ⟨rfl, fun _ h => nomatch h⟩
    · rintro ⟨h, _⟩; exact List.length_eq_zero_iff.mp h
  | n + 1, r => by
    show r ∈ (marks n).flatMap _ ↔ _
    rw [List.mem_flatMap]
    constructor
    · rintro ⟨s, hs, h⟩
      obtain ⟨h1, h2⟩ := (mem_marks n s).mp hs
      have : ∃ b, (b = 0 ∨ b = 1) ∧ r = s ++ [b] := by
        simp at h
        rcases h with h | h
        · exact ⟨0, .inl rfl, h⟩
        · exact ⟨1, .inr rfl, h⟩
      obtain ⟨b, hb, rfl⟩ := this
      refine ⟨by rw [List.length_append, h1]; rfl, fun x hx => ?_⟩
      rcases List.mem_append.mp hx with q | q
      · exact h2 x q
      · rw [List.mem_singleton.mp q]; exact hb
    · rintro ⟨h1, h2⟩
      have hne : r ≠ [] := by intro e; rw [e] at h1; simp at h1
      refine ⟨r.dropLast, (mem_marks n _).mpr ⟨by rw [List.length_dropLast, h1]; rfl, fun x hx => h2 x (List.dropLast_subset _ hx)⟩, ?_⟩
      have e := List.dropLast_concat_getLast hne
      rcases h2 _ (List.getLast_mem hne) with q | q
      · rw [q] at e; simp [e]
      · rw [q] at e; simp [e]
theorem isSides_iff {g : Graph} {m : Row} : isSides g m = true ↔ ∀ i, i < g.length → (least g i = true → node m i = 0) ∧ ∀ j, j < g.length → joined g i j = true → node m i ≠ node m j := by
  unfold isSides nodes
  simp only [List.all_eq_true, List.mem_range, Bool.and_eq_true, Bool.or_eq_true, Bool.not_eq_true', beq_iff_eq, bne_iff_ne]
  constructor
  · intro h i hi
    refine ⟨fun q => ?_, fun j hj q => ?_⟩
    · rcases (h i hi).1 with a | a
      · rw [q] at a; cases a
      · exact a
    · rcases (h i hi).2 j hj with a | a
      · rw [q] at a; cases a
      · exact a
  · intro h i hi
    refine ⟨?_, fun j hj => ?_⟩
    · cases e : least g i with
      | false => exact .inl rfl
      | true => exact .inr ((h i hi).1 e)
    · cases e : joined g i j with
      | false => exact .inl rfl
      | true => exact .inr ((h i hi).2 j hj e)
theorem bit_of {n : Nat} {m : Row} (h : m ∈ marks n) {i : Nat} (hi : i < n) : node m i = 0 ∨ node m i = 1 := by
  obtain ⟨h1, h2⟩ := (mem_marks n m).mp h
  unfold node
  rw [List.getD_eq_getElem?_getD, List.getElem?_eq_getElem (by omega)]
  exact h2 _ (List.getElem_mem _)
/-- the marks that walks from the least nodes give -/
structure Mk (g : Graph) (m : Nat → Nat) : Prop where
  at_ : ∀ v, v < g.length → ∃ r k, r < g.length ∧ Way g r k v ∧ m v = k % 2 ∧ ∀ u l, Way g r l u → r ≤ u
theorem sides_some {g : Graph} (o : Ok g) (no : ∀ k, 3 ≤ k → k % 2 = 1 → rr g k = []) {m : Nat → Nat} (M : Mk g m) : Gg.sides g = some ((List.range g.length).map m) := by
  have nm : ∀ i, i < g.length → node ((List.range g.length).map m) i = m i := fun i hi => getD_map m hi
  have val : isSides g ((List.range g.length).map m) = true := by
    rw [isSides_iff]
    intro i hi
    obtain ⟨r, k, hr, w, e, hl⟩ := M.at_ i hi
    refine ⟨fun q => ?_, fun j hj q => ?_⟩
    · rw [nm i hi]
      have h1 := hl i k w
      have h2 := (least_iff hi).mp q r k (w.rev o hr)
      have : r = i := by omega
      subst this
      rw [e]
      exact way_even o no w
    · rw [nm i hi, nm j hj]
      obtain ⟨r', k', hr', w', e', hl'⟩ := M.at_ j hj
      have s1 : Way g i 1 j := .step .zero q hj
      have w1 : Way g r (k + 1 + k') r' := (w.app s1).app (w'.rev o hr')
      have h1 := hl _ _ w1
      have h2 := hl' _ _ (w1.rev o hr)
      have : r' = r := by omega
      subst this
      have := way_even o no w1
      rw [e, e']
      omega
  have uni : ∀ x ∈ marks g.length, isSides g x = true → x = (List.range g.length).map m := fun x hx hs => by
    rw [isSides_iff] at hs
    have hlen := ((mem_marks _ x).mp hx).1
    have alt : ∀ r k v, r < g.length → node x r = 0 → Way g r k v → node x v = k % 2 := fun r k v hr h0 w => by
      induction w with
      | zero => rw [h0]
      | @step k u v ru j d ih =>
        have hu := Way.lt hr ru
        have h1 := (hs u hu).2 v d j
        have h2 := bit_of hx d
        omega
    refine List.ext_getElem (by rw [hlen, List.length_map, List.length_range]) fun i h1 h2 => ?_
    have hi : i < g.length := by omega
    obtain ⟨r, k, hr, w, e, hl⟩ := M.at_ i hi
    have := alt r k i hr ((hs r hr).1 ((least_iff hr).mpr hl)) w
    rw [List.getElem_map, List.getElem_range, e, ← this]
    unfold node
    rw [List.getD_eq_getElem?_getD, List.getElem?_eq_getElem h1]; rfl
  unfold Gg.sides
  have hin : (List.range g.length).map m ∈ marks g.length := by
    rw [mem_marks]
    refine ⟨by rw [List.length_map, List.length_range], fun x hx => ?_⟩
    obtain ⟨i, hi, rfl⟩ := List.mem_map.mp hx
    obtain ⟨r, k, _, _, e, _⟩ := M.at_ i (List.mem_range.mp hi)
    omega
  cases e : (marks g.length).find? (fun m => isSides g m) with
  | none =>
    rw [List.find?_eq_none] at e
    exact absurd val (e _ hin)
  | some x =>
    rw [uni x (List.mem_of_find?_eq_some e) (by have := List.find?_some e; exact this)]
theorem sides_none {g : Graph} {k : Nat} (hk : 3 ≤ k) (ho : k % 2 = 1) {r : Row} (h : r ∈ rr g k) : Gg.sides g = none := by
  obtain ⟨hl, _, lt, st, cl⟩ := rr_get (by omega) h
  unfold Gg.sides
  rw [List.find?_eq_none]
  intro m hm hs
  rw [isSides_iff] at hs
  have inl : ∀ i, i < k → r.getD i 0 < g.length := fun i hi => by
    rw [List.getD_eq_getElem?_getD, List.getElem?_eq_getElem (by omega)]
    exact lt _ (List.getElem_mem _)
  have alt : ∀ i, i < k → node m (r.getD i 0) = (node m (r.getD 0 0) + i) % 2 := fun i => by
    induction i with
    | zero =>
      intro hi
      have := bit_of hm (inl 0 hi)
      omega
    | succ i ih =>
      intro hi
      have h1 := (hs _ (inl i (by omega))).2 _ (inl (i + 1) hi) (st i hi)
      have h2 := bit_of hm (inl (i + 1) hi)
      have h3 := ih (by omega)
      omega
  have h1 := (hs _ (inl 0 (by omega))).2 _ (inl (k - 1) (by omega)) cl
  have h2 := alt (k - 1) (by omega)
  have h3 := bit_of hm (inl 0 (by omega))
  omega
theorem sides_ring {g : Graph} (o : Ok g) {r : Row} (h : fst g (want 3 2) g.length = some r) : Gg.sides g = none ∧ oddRing g = some r := by
  refine ⟨?_, by rw [oddRing_eq o]; exact h⟩
  obtain ⟨k, hk, ho, hr⟩ := odd_some h
  refine sides_none hk ho (r := r) ?_
  rw [rings_lv g (by omega), lv_filter] at hr
  unfold rr
  rw [lv_filter]
  obtain ⟨h1, h2⟩ := List.mem_filter.mp hr
  exact List.mem_filter.mpr ⟨h1, ring_of_bare (mem_top g k r h1).1 h2⟩
theorem sides_eq (ns : List Int) : PyWrgood.sides ns = if isGraph (WrgoodNeutral.graph ns) = true then (match Gg.sides (WrgoodNeutral.graph ns) with
    | some r => 1 :: r.map fun (k : Nat) => (k : Int)
    | none => 0 :: ((oddRing (WrgoodNeutral.graph ns)).getD []).map fun (k : Nat) => (k : Int)) else [-1] := by
  show WrgoodNeutral.told (if isGraph (WrgoodNeutral.graph ns) = true then (match Gg.sides (WrgoodNeutral.graph ns) with
    | some m => Wrgood.Answer.yes m
    | none => .not_ ((oddRing (WrgoodNeutral.graph ns)).getD [])) else .no (-1)) = _
  by_cases h : isGraph (WrgoodNeutral.graph ns) = true
  · rw [if_pos h, if_pos h]
    cases Gg.sides (WrgoodNeutral.graph ns) <;> rfl
  · rw [if_neg h, if_neg h]; rfl
end Gm

end
section
/-! split: what's forbidden is just what's missing -/
namespace Gm
open Gg
/-! ### the greatest of a measure -/
theorem greatest {α : Type} {P : α → Prop} {f : α → Nat} {B : Nat} (hb : ∀ a, P a → f a ≤ B) {a : α} (ha : P a) : ∃ m, P m ∧ ∀ b, P b → f b ≤ f m := by
  have : ∀ (d : Nat) (a : α), P a → B - f a ≤ d → ∃ m, P m ∧ ∀ b, P b → f b ≤ f m := by
    intro d
    induction d with
    | zero =>
      intro a ha hd
      exact ⟨a, ha, fun b hb' => by have := hb b hb'; omega⟩
    | succ d ih =>
      intro a ha hd
      by_cases h : ∃ b, P b ∧ f a < f b
      · obtain ⟨b, h1, h2⟩ := h
        exact ih b h1 (by omega)
      · refine ⟨a, ha, fun b hb' => ?_⟩
        rcases Nat.lt_or_ge (f a) (f b) with q | q
        · exact absurd ⟨b, hb', q⟩ h
        · exact q
  exact this _ a ha (Nat.le_refl _)
theorem cnt_le {p q : Nat → Bool} : ∀ (n : Nat), (∀ i, i < n → p i = true → q i = true) → cnt p n ≤ cnt q n
  | 0, _ => Nat.le_refl _
  | n + 1, h => by
    rw [cnt_succ, cnt_succ]
    have ih := cnt_le n fun i hi => h i (by omega)
    have hn := h n (by omega)
    by_cases e : p n = true
    · rw [if_pos e, if_pos (hn e)]; omega
    · rw [if_neg e]; omega
theorem cnt_lt {p q : Nat → Bool} {y : Nat} : ∀ (n : Nat), (∀ i, i < n → p i = true → q i = true) → y < n → p y = false → q y = true → cnt p n < cnt q n
  | 0, _, h, _, _ => by omega
  | n + 1, h, hy, py, qy => by
    rw [cnt_succ, cnt_succ]
    by_cases e : y = n
    · subst e
      have ih := cnt_le y fun i hi => h i (by omega)
      rw [py, qy]; simp; omega
    · have ih := cnt_lt n (fun i hi => h i (by omega)) (by omega) py qy
      have hn := h n (by omega)
      by_cases e : p n = true
      · rw [if_pos e, if_pos (hn e)]; omega
      · rw [if_neg e]; omega
theorem tot_le {f h : Nat → Nat} : ∀ n, (∀ i, i < n → f i ≤ h i) → tot f n ≤ tot h n
  | 0, _ => Nat.le_refl _
  | n + 1, e => by
    show tot f n + f n ≤ tot h n + h n
    have := tot_le n fun i hi => e i (by omega)
    have := e n (by omega)
    omega
/-- one place changed -/
theorem tot_at {f h : Nat → Nat} {x : Nat} : ∀ n, x < n → (∀ i, i < n → i ≠ x → f i = h i) → tot f n + h x = tot h n + f x
  | 0, hx, _ => by omega
  | n + 1, hx, e => by
    show tot f n + f n + h x = tot h n + h n + f x
    by_cases q : x = n
    · subst q
      rw [tot_congr x fun i hi => e i (by omega) (by omega)]; omega
    · have := tot_at n (by omega) fun i hi => e i (by omega)
      have := e n (by omega) (by omega)
      omega
/-! ### four nodes as a row -/
theorem mem_rowsOf4 {g : Graph} {a b c d : Nat} (ha : a < g.length) (hb : b < g.length) (hc : c < g.length) (hd : d < g.length) (nd : [a, b, c, d].Nodup) : [a, b, c, d] ∈ rowsOf g 4 := by
  have step : ∀ (k : Nat) (r : Row) (v : Nat), r ∈ rowsOf g k → v < g.length → v ∉ r → r ++ [v] ∈ rowsOf g (k + 1) := by
    intro k r v hr hv hn
    unfold rowsOf
    refine List.mem_flatMap.mpr ⟨r, hr, List.mem_map.mpr ⟨v, List.mem_filter.mpr ⟨List.mem_range.mpr hv, ?_⟩, rfl⟩⟩
    simpa using hn
  simp only [List.nodup_cons, List.mem_cons, List.not_mem_nil, or_false, not_or] at nd
  obtain ⟨⟨n1, n2, n3⟩, ⟨n4, n5⟩, n6, _⟩ := nd
  have h0 : [] ∈ rowsOf g 0 := by simp [rowsOf]
  have h1 := step 0 [] a h0 ha (by simp)
  have h2 := step 1 [a] b h1 hb (by simp; omega)
  have h3 := step 2 [a, b] c h2 hc (by simp; omega)
  exact step 3 [a, b, c] d h3 hd (by simp; omega)
theorem rowsOf_mem {g : Graph} : ∀ {k : Nat} {r : Row}, r ∈ rowsOf g k → r.length = k ∧ r.Nodup ∧ ∀ u ∈ r, u < g.length
  | 0, r, h => by
    have : r = [] := by simpa [rowsOf] using h
    subst this; simp
  | k + 1, r, h => by
    unfold rowsOf at h
    obtain ⟨s, hs, h2⟩ := List.mem_flatMap.mp h
    obtain ⟨v, hv, rfl⟩ := List.mem_map.mp h2
    obtain ⟨h3, h4⟩ := List.mem_filter.mp hv
    obtain ⟨i1, i2, i3⟩ := rowsOf_mem hs
    have hvs : v ∉ s := by simpa using h4
    refine ⟨by rw [List.length_append, i1]; rfl, ?_, fun u hu => ?_⟩
    · rw [List.nodup_append]
      refine ⟨i2, by simp, fun x hx y hy e => ?_⟩
      rw [List.mem_singleton.mp hy] at e
      exact hvs (e ▸ hx)
    · rcases List.mem_append.mp hu with q | q
      · exact i3 u q
      · rw [List.mem_singleton.mp q]; exact List.mem_range.mp h3
/-- the forbidden things of split, as facts -/
structure NoSplit (g : Graph) : Prop where
  four : ∀ a b c d, a < g.length → b < g.length → c < g.length → d < g.length → [a, b, c, d].Nodup → (isRing4 g [a, b, c, d] || isPairs4 g [a, b, c, d]) = false
  five : rings g 5 = []
theorem noSplit_of {g : Graph} (_o : Ok g) (h : notSplit g = none) : NoSplit g := by
  unfold notSplit at h
  cases e : (rowsOf g 4).find? (fun r => isRing4 g r || isPairs4 g r) with
  | some r => rw [e] at h; cases h
  | none =>
    rw [e] at h
    dsimp only at h
    refine ⟨fun a b c d ha hb hc hd nd => ?_, ?_⟩
    · have := List.find?_eq_none.mp e _ (mem_rowsOf4 ha hb hc hd nd)
      simpa using this
    · unfold firstOf at h
      by_cases q : 5 ≤ g.length
      · have e5 : [5].filter (fun k => decide (k ≤ g.length)) = [5] := by simp [q]
        rw [e5] at h
        have h2 : chordless g 5 = none := by
          cases c : chordless g 5 with
          | none => rfl
          | some r => rw [List.findSome?_cons, c] at h; cases h
        rw [chordless_head g (by decide)] at h2
        exact List.head?_eq_none_iff.mp h2
      · exact rings_big (by decide) (by omega)
/-- a chordless ring of five as facts -/
theorem five_ring {g : Graph} (o : Ok g) {a b c d e : Nat} (hr : rings g 5 = []) (nd : [a, b, c, d, e].Nodup) (hab : joined g a b = true) (hbc : joined g b c = true) (hcd : joined g c d = true) (hde : joined g d e = true) (hea : joined g a e = true)
    (n1 : joined g a c = false) (n2 : joined g a d = false) (n3 : joined g b d = false) (n4 : joined g b e = false) (n5 : joined g c e = false) : False := by
  have hlt : ∀ u ∈ [a, b, c, d, e], u < g.length := by
    intro u hu
    simp only [List.mem_cons, List.not_mem_nil, or_false] at hu
    rcases hu with h | h | h | h | h <;> subst h
    · exact (o.joined_lt hab).1
    · exact (o.joined_lt hab).2
    · exact (o.joined_lt hbc).2
    · exact (o.joined_lt hcd).2
    · exact (o.joined_lt hde).2
  have hm := top_mem g [a, b, c, d, e] nd hlt
  have h1 : okRow (fun r v => bareNext g 5 r v) [a, b, c, d, e] = true := by
    simp [okRow, List.range_succ, bareNext, List.getLastD, hab, hbc, hcd, hde, hea, n1, n2, n3, n4, n5]
  have h2 : [a, b, c, d, e] ∈ rings g 5 := by
    rw [rings_lv g (by decide), lv_filter]
    exact List.mem_filter.mpr ⟨hm, h1⟩
  rw [hr] at h2
  simp at h2
/-! ### a clique of the greatest weight leaves no two joined -/
structure Cliq (g : Graph) (K : Nat → Bool) : Prop where
  any : ∀ a b, a < g.length → b < g.length → K a = true → K b = true → a ≠ b → joined g a b = true
def wgt (g : Graph) (v : Nat) : Nat := 1 + cnt (joined g v) g.length
def wsum (g : Graph) (K : Nat → Bool) : Nat := tot (fun v => if K v = true then wgt g v else 0) g.length
theorem cliq_rest {g : Graph} (o : Ok g) (N : NoSplit g) {K : Nat → Bool} (C : Cliq g K) (mx : ∀ L, Cliq g L → wsum g L ≤ wsum g K) : ∀ x y, x < g.length → y < g.length → K x = false → K y = false → joined g x y = false := by
  -- each node outside misses one within
  have miss : ∀ x, x < g.length → K x = false → ∃ u, u < g.length ∧ K u = true ∧ joined g x u = false := by
    intro x hx kx
    refine Classical.byContradiction fun no => ?_
    have all : ∀ u, u < g.length → K u = true → joined g x u = true := fun u hu ku => by
      cases e : joined g x u with
      | true => rfl
      | false => exact absurd ⟨u, hu, ku, e⟩ no
    have C' : Cliq g (fun v => decide (v = x) || K v) := ⟨fun a b ha hb ka kb ab => by
      simp only [Bool.or_eq_true, decide_eq_true_eq] at ka kb
      rcases ka with ka | ka
      · subst ka
        rcases kb with kb | kb
        · exact absurd kb.symm ab
        · exact all b hb kb
      · rcases kb with kb | kb
        · subst kb
          rw [o.sym']; exact all a ha ka
        · exact C.any a b ha hb ka kb ab⟩
    have h := mx _ C'
    unfold wsum at h
    have e := tot_at (f := fun v => if (decide (v = x) || K v) = true then wgt g v else 0) (h := fun v => if K v = true then wgt g v else 0) (x := x) g.length hx (fun i _ hi => by simp [hi])
    simp [kx] at e
    simp at h
    have : 1 ≤ wgt g x := by unfold wgt; omega
    omega
  -- one that misses but one of the clique: the missed one has a neighbour that it hasn't
  have swap : ∀ x y z, x < g.length → K x = false → z < g.length → K z = true → joined g x z = false → (∀ u, u < g.length → K u = true → u ≠ z → joined g x u = true) → joined g x y = true → joined g z y = false → ∃ y', joined g z y' = true ∧ joined g x y' = false := by
    intro x y z hx kx hz kz nxz all hxy nzy
    have xz : x ≠ z := fun e => by rw [e, kz] at kx; cases kx
    refine Classical.byContradiction fun no => ?_
    have sub : ∀ u, u < g.length → joined g z u = true → joined g x u = true := fun u _ h => by
      cases e : joined g x u with
      | true => rfl
      | false => exact absurd ⟨u, h, e⟩ no
    have lt := cnt_lt g.length sub (o.joined_lt hxy).2 nzy hxy
    have C' : Cliq g (fun v => decide (v = x) || (K v && decide (v ≠ z))) := ⟨fun a b ha hb ka kb ab => by
      simp only [Bool.or_eq_true, Bool.and_eq_true, decide_eq_true_eq] at ka kb
      rcases ka with ka | ka
      · subst ka
        rcases kb with kb | kb
        · exact absurd kb.symm ab
        · exact all b hb kb.1 kb.2
      · rcases kb with kb | kb
        · subst kb
          rw [o.sym']; exact all a ha ka.1 ka.2
        · exact C.any a b ha hb ka.1 kb.1 ab⟩
    have h := mx _ C'
    unfold wsum at h
    have e1 := tot_at (f := fun v => if (decide (v = x) || (K v && decide (v ≠ z))) = true then wgt g v else 0) (h := fun v => if (K v && decide (v ≠ z)) = true then wgt g v else 0) (x := x) g.length hx (fun i _ hi => by simp [hi])
    have e2 := tot_at (f := fun v => if (K v && decide (v ≠ z)) = true then wgt g v else 0) (h := fun v => if K v = true then wgt g v else 0) (x := z) g.length hz (fun i _ hi => by simp [hi])
    simp [kx] at e1
    simp [kz] at e2
    simp at h
    have : wgt g z < wgt g x := by unfold wgt; omega
    omega
  -- the misses of one are those of the other
  have main : ∀ x y, x < g.length → y < g.length → K x = false → K y = false → joined g x y = true → (∀ u, u < g.length → K u = true → joined g x u = false → joined g y u = false) → False := by
    intro x y hx hy kx ky hxy sub
    obtain ⟨z, hz, kz, nxz⟩ := miss x hx kx
    have nyz := sub z hz kz nxz
    have ne : ∀ {a b}, joined g a b = true → a ≠ b := fun {a b} h e => by rw [e, o.self'] at h; cases h
    have nk : ∀ {a b}, K a = false → K b = true → a ≠ b := fun {a b} h1 h2 e => by rw [e, h2] at h1; cases h1
    have all : ∀ u, u < g.length → K u = true → u ≠ z → joined g x u = true := by
      intro u hu ku uz
      cases e : joined g x u with
      | true => rfl
      | false =>
        exfalso
        have nyu := sub u hu ku e
        have zu := C.any z u hz hu kz ku (Ne.symm uz)
        have := N.four x y z u hx hy hz hu (by simp only [List.nodup_cons, List.mem_cons, List.not_mem_nil, or_false, not_or, List.nodup_nil, not_false_eq_true, and_true]; exact ⟨⟨ne hxy, nk kx kz, nk kx ku⟩, ⟨nk ky kz, nk ky ku⟩, Ne.symm uz⟩)
        simp [isRing4, isPairs4, four, node, hxy, nxz, e, nyz, nyu, zu] at this
    obtain ⟨y', hzy, nxy⟩ := swap x y z hx kx hz kz nxz all hxy (by rw [o.sym']; exact nyz)
    have hy' := (o.joined_lt hzy).2
    have zy' : z ≠ y' := ne hzy
    have ky' : K y' = false := by
      cases e : K y' with
      | false => rfl
      | true => rw [all y' hy' e (Ne.symm zy')] at nxy; cases nxy
    have yy : y ≠ y' := fun e => by rw [← e, o.sym', nyz] at hzy; cases hzy
    have xy' : x ≠ y' := fun e => by rw [← e, o.sym', nxz] at hzy; cases hzy
    cases eyy : joined g y y' with
    | false =>
      have := N.four x y z y' hx hy hz hy' (by simp only [List.nodup_cons, List.mem_cons, List.not_mem_nil, or_false, not_or, List.nodup_nil, not_false_eq_true, and_true]; exact ⟨⟨ne hxy, nk kx kz, xy'⟩, ⟨nk ky kz, yy⟩, zy'⟩)
      simp [isRing4, isPairs4, four, node, hxy, nxz, nxy, nyz, eyy, hzy] at this
    | true =>
      obtain ⟨u, hu, ku, nyu⟩ := miss y' hy' ky'
      have uz : u ≠ z := fun e => by rw [e, o.sym', hzy] at nyu; cases nyu
      have xu := all u hu ku uz
      have zu := C.any z u hz hu kz ku (Ne.symm uz)
      cases eyu : joined g y u with
      | true =>
        have := N.four y u z y' hy hu hz hy' (by simp only [List.nodup_cons, List.mem_cons, List.not_mem_nil, or_false, not_or, List.nodup_nil, not_false_eq_true, and_true]; exact ⟨⟨nk ky ku, nk ky kz, yy⟩, ⟨uz, Ne.symm (nk ky' ku)⟩, zy'⟩)
        simp [isRing4, isPairs4, four, node, eyu, nyz, eyy, (o.sym' u z).trans zu, (o.sym' u y').trans nyu, hzy] at this
      | false =>
        refine five_ring o N.five (a := x) (b := y) (c := y') (d := z) (e := u) ?_ hxy eyy ((o.sym' y' z).trans hzy) zu xu nxy nxz nyz eyu nyu
        simp only [List.nodup_cons, List.mem_cons, List.not_mem_nil, or_false, not_or, List.nodup_nil, not_false_eq_true, and_true]
        exact ⟨⟨ne hxy, xy', nk kx kz, nk kx ku⟩, ⟨yy, nk ky kz, nk ky ku⟩, ⟨Ne.symm zy', nk ky' ku⟩, Ne.symm uz⟩
  intro x y hx hy kx ky
  cases hxy : joined g x y with
  | false => rfl
  | true =>
    exfalso
    by_cases h : ∀ u, u < g.length → K u = true → joined g x u = false → joined g y u = false
    · exact main x y hx hy kx ky hxy h
    · by_cases h' : ∀ u, u < g.length → K u = true → joined g y u = false → joined g x u = false
      · exact main y x hy hx ky kx (by rw [o.sym']; exact hxy) h'
      · simp only [Classical.not_forall] at h h'
        obtain ⟨u, hu, ku, xu, yu⟩ := h
        obtain ⟨v, hv, kv, yv, xv⟩ := h'
        have yu : joined g y u = true := by simpa using yu
        have xv : joined g x v = true := by simpa using xv
        have ne : ∀ {a b}, joined g a b = true → a ≠ b := fun {a b} h e => by rw [e, o.self'] at h; cases h
        have nk : ∀ {a b}, K a = false → K b = true → a ≠ b := fun {a b} h1 h2 e => by rw [e, h2] at h1; cases h1
        have uv : v ≠ u := fun e => by rw [e, yu] at yv; cases yv
        have vu := C.any v u hv hu kv ku uv
        have := N.four x v u y hx hv hu hy (by simp only [List.nodup_cons, List.mem_cons, List.not_mem_nil, or_false, not_or, List.nodup_nil, not_false_eq_true, and_true]; exact ⟨⟨nk kx kv, nk kx ku, ne hxy⟩, ⟨uv, Ne.symm (nk ky kv)⟩, Ne.symm (nk ky ku)⟩)
        simp [isRing4, isPairs4, four, node, xv, xu, hxy, vu, (o.sym' v y).trans yv, (o.sym' u y).trans yu] at this
theorem isSplit_iff {g : Graph} {m : Row} : isSplit g m = true ↔ ∀ i j, i < j → j < g.length → (node m i = 1 → node m j = 1 → joined g i j = true) ∧ (node m i = 0 → node m j = 0 → joined g i j = false) := by
  unfold isSplit nodes
  simp only [List.all_eq_true, List.mem_range]
  constructor
  · intro h i j hij hj
    have q := h i (by omega) j hj
    rw [Bool.or_eq_true, decide_eq_true_eq] at q
    have q := q.resolve_left (by omega)
    rw [Bool.and_eq_true] at q
    refine ⟨fun a b => ?_, fun a b => ?_⟩
    · have q := q.1
      simp [a, b] at q; exact q
    · have q := q.2
      simp [a, b] at q; exact q
  · intro h i hi j hj
    rw [Bool.or_eq_true, decide_eq_true_eq]
    by_cases q : j ≤ i
    · exact .inl q
    · right
      obtain ⟨h1, h2⟩ := h i j (by omega) hj
      rw [Bool.and_eq_true]
      constructor
      · by_cases a : node m i = 1
        · by_cases b : node m j = 1
          · simp [a, b, h1 a b]
          · simp [b]
        · simp [a]
      · by_cases a : node m i = 0
        · by_cases b : node m j = 0
          · simp [h2 a b]
          · simp [b]
        · simp [a]
theorem split_some {g : Graph} (o : Ok g) (h : notSplit g = none) : ∃ m, Gg.split g = some m := by
  have N := noSplit_of o h
  obtain ⟨K, C, mx⟩ := greatest (P := Cliq g) (f := wsum g) (B := tot (wgt g) g.length) (fun K _ => tot_le _ fun i _ => by
    by_cases e : K i = true
    · rw [if_pos e]; exact Nat.le_refl _
    · rw [if_neg e]; exact Nat.zero_le _) (a := fun _ => false) ⟨fun a b _ _ h => by cases h⟩
  have rest := cliq_rest o N C mx
  cases e : Gg.split g with
  | some m => exact ⟨m, rfl⟩
  | none =>
    exfalso
    unfold Gg.split at e
    have hm : (List.range g.length).map (fun i => if K i = true then 1 else 0) ∈ marks g.length := by
      refine (mem_marks _ _).mpr ⟨by simp, fun x hx => ?_⟩
      obtain ⟨i, _, rfl⟩ := List.mem_map.mp hx
      by_cases q : K i = true
      · rw [if_pos q]; exact .inr rfl
      · rw [if_neg q]; exact .inl rfl
    have nd : ∀ i, i < g.length → node ((List.range g.length).map (fun i => if K i = true then 1 else 0)) i = if K i = true then 1 else 0 := fun i hi => getD_map (fun i => if K i = true then 1 else 0) hi
    refine List.find?_eq_none.mp e _ hm (isSplit_iff.mpr fun i j hij hj => ?_)
    rw [nd i (by omega), nd j hj]
    refine ⟨fun a b => ?_, fun a b => ?_⟩
    · have ki : K i = true := by
        cases q : K i with
        | true => rfl
        | false => rw [q] at a; simp at a
      have kj : K j = true := by
        cases q : K j with
        | true => rfl
        | false => rw [q] at b; simp at b
      exact C.any i j (by omega) hj ki kj (by omega)
    · have ki : K i = false := by
        cases q : K i with
        | false => rfl
        | true => rw [q] at a; simp at a
      have kj : K j = false := by
        cases q : K j with
        | false => rfl
        | true => rw [q] at b; simp at b
      exact rest i j (by omega) hj ki kj
/-- a row of marks on any nodes -/
theorem split_rel {g : Graph} (o : Ok g) {m : Row} (hm : m ∈ marks g.length) (h : isSplit g m = true) {i j : Nat} (hi : i < g.length) (hj : j < g.length) (ne : i ≠ j) : (node m i = 1 ∧ node m j = 1 → joined g i j = true) ∧ (node m i ≠ 1 ∧ node m j ≠ 1 → joined g i j = false) := by
  have b1 := bit_of hm hi
  have b2 := bit_of hm hj
  rcases Nat.lt_or_gt_of_ne ne with q | q
  · obtain ⟨h1, h2⟩ := isSplit_iff.mp h i j q hj
    exact ⟨fun a => h1 a.1 a.2, fun a => h2 (by omega) (by omega)⟩
  · obtain ⟨h1, h2⟩ := isSplit_iff.mp h j i q hi
    rw [o.sym']
    exact ⟨fun a => h1 a.2 a.1, fun a => h2 (by omega) (by omega)⟩
theorem split_sum {g : Graph} (o : Ok g) {m : Row} (hm : m ∈ marks g.length) (h : isSplit g m = true) {i j : Nat} (hi : i < g.length) (hj : j < g.length) (ne : i ≠ j) : node m i ≤ 1 ∧ node m j ≤ 1 ∧ (joined g i j = true → 1 ≤ node m i + node m j) ∧ (joined g i j = false → node m i + node m j ≤ 1) := by
  obtain ⟨h1, h2⟩ := split_rel o hm h hi hj ne
  have b1 := bit_of hm hi
  have b2 := bit_of hm hj
  refine ⟨by omega, by omega, fun e => ?_, fun e => ?_⟩
  · rcases Nat.lt_or_ge (node m i + node m j) 1 with q | q
    · have := h2 ⟨by omega, by omega⟩
      rw [e] at this; cases this
    · exact q
  · rcases Nat.lt_or_ge 1 (node m i + node m j) with q | q
    · have := h1 ⟨by omega, by omega⟩
      rw [e] at this; cases this
    · exact q
theorem split_four {g : Graph} (o : Ok g) {m : Row} (hm : m ∈ marks g.length) (h : isSplit g m = true) {r : Row} (hr : r ∈ rowsOf g 4) : (isRing4 g r || isPairs4 g r) = false := by
  obtain ⟨hl, nd, lt⟩ := rowsOf_mem hr
  match r, hl with
  | [a, b, c, d], _ =>
    simp only [List.nodup_cons, List.mem_cons, List.not_mem_nil, or_false, not_or] at nd
    obtain ⟨⟨n1, n2, n3⟩, ⟨n4, n5⟩, n6, _⟩ := nd
    have la := lt a (by simp)
    have lb := lt b (by simp)
    have lc := lt c (by simp)
    have ld := lt d (by simp)
    obtain ⟨b1, b2, t1, f1⟩ := split_sum o hm h la lb n1
    obtain ⟨_, b3, t2, f2⟩ := split_sum o hm h la lc n2
    obtain ⟨_, b4, t3, f3⟩ := split_sum o hm h la ld n3
    obtain ⟨_, _, t4, f4⟩ := split_sum o hm h lb lc n4
    obtain ⟨_, _, t5, f5⟩ := split_sum o hm h lb ld n5
    obtain ⟨_, _, t6, f6⟩ := split_sum o hm h lc ld n6
    cases e : (isRing4 g [a, b, c, d] || isPairs4 g [a, b, c, d]) with
    | false => rfl
    | true =>
      exfalso
      simp only [isRing4, isPairs4, four, Bool.or_eq_true, beq_iff_eq, List.cons.injEq, and_true] at e
      simp only [node, List.getD_cons_zero, List.getD_cons_succ] at e
      rcases e with ⟨e1, e2, e3, e4, e5, e6⟩ | ⟨e1, e2, e3, e4, e5, e6⟩
      · have := t1 e1; have := f2 e2; have := t3 e3; have := t4 e4; have := f5 e5; have := t6 e6
        omega
      · have := t1 e1; have := f2 e2; have := f3 e3; have := f4 e4; have := f5 e5; have := t6 e6
        omega
theorem split_five {g : Graph} (o : Ok g) {m : Row} (hm : m ∈ marks g.length) (h : isSplit g m = true) : rings g 5 = [] := by
  cases e : rings g 5 with
  | nil => rfl
  | cons r t =>
    exfalso
    have hr : r ∈ rings g 5 := by rw [e]; exact List.mem_cons_self
    rw [rings_lv g (by decide), lv_filter] at hr
    obtain ⟨h1, h2⟩ := List.mem_filter.mp hr
    obtain ⟨hl, nd, lt⟩ := mem_top g 5 r h1
    match r, hl with
    | [a, b, c, d, f], _ =>
      simp [okRow, List.range_succ, bareNext, List.getLastD] at h2
      simp only [List.nodup_cons, List.mem_cons, List.not_mem_nil, or_false, not_or] at nd
      obtain ⟨⟨n1, n2, n3, n4⟩, ⟨n5, n6, n7⟩, ⟨n8, n9⟩, n10, _⟩ := nd
      have la := lt a (by simp)
      have lb := lt b (by simp)
      have lc := lt c (by simp)
      have ld := lt d (by simp)
      have lf := lt f (by simp)
      obtain ⟨b1, b2, t1, f1⟩ := split_sum o hm h la lb n1
      obtain ⟨_, b3, t2, f2⟩ := split_sum o hm h la lc n2
      obtain ⟨_, b4, t3, f3⟩ := split_sum o hm h la ld n3
      obtain ⟨_, b5, t4, f4⟩ := split_sum o hm h la lf n4
      obtain ⟨_, _, t5, f5⟩ := split_sum o hm h lb lc n5
      obtain ⟨_, _, t6, f6⟩ := split_sum o hm h lb ld n6
      obtain ⟨_, _, t7, f7⟩ := split_sum o hm h lb lf n7
      obtain ⟨_, _, t8, f8⟩ := split_sum o hm h lc ld n8
      obtain ⟨_, _, t9, f9⟩ := split_sum o hm h lc lf n9
      obtain ⟨_, _, t10, f10⟩ := split_sum o hm h ld lf n10
      obtain ⟨e1, ⟨e2, e3⟩, ⟨e4, e5, e6⟩, e7, ⟨e8, e9⟩, e10⟩ := h2
      have := t1 e1; have := t5 e2; have := f2 e3; have := t8 e4; have := f6 e5
      have := f3 e6; have := t10 e7; have := f7 e8; have := f9 e9; have := t4 e10
      omega
theorem split_none {g : Graph} (o : Ok g) {r : Row} (h : notSplit g = some r) : Gg.split g = none := by
  cases e : Gg.split g with
  | none => rfl
  | some m =>
    exfalso
    unfold Gg.split at e
    have hm := List.mem_of_find?_eq_some e
    have hs := List.find?_some e
    unfold notSplit at h
    have e4 : (rowsOf g 4).find? (fun r => isRing4 g r || isPairs4 g r) = none := by
      refine List.find?_eq_none.mpr fun r hr => ?_
      rw [split_four o hm hs hr]; simp
    rw [e4] at h
    dsimp only at h
    unfold firstOf at h
    obtain ⟨k, hk, h2⟩ := List.exists_of_findSome?_eq_some h
    have : k = 5 := by simpa using (List.mem_filter.mp hk).1
    subst this
    rw [chordless_head g (by decide), split_five o hm hs] at h2
    cases h2
end Gm

end
section
/-! rows that have a shape -/
namespace Gm
open Gg
/-- new, and joined with just those that the shape tells -/
def shP (g : Graph) (sh : List Row) (r : Row) (v : Nat) : Bool := !r.contains v && decide ((List.range r.length).filter (fun i => joined g (node r i) v) = sh.getD r.length [])
end Gm

end
section
/-! rows by shape are the rows that the document speaks of -/
namespace Gm
open Gg
/-! ### depth first as the specification does it -/
theorem dfs_extend {g : Graph} {p may : Row → Nat → Bool} {k : Nat} (h : ∀ r v, r.length < k → p r v = (!r.contains v && may r v)) : ∀ (f : Nat) (r : Row), r.length + f = k → dfs p (nodes g) k f r = extend g may k (f + 1) r
  | 0, r, hl => by
    show (if r.length = k then some r else none) = (if r.length = k then some r else _)
    rw [if_pos (by omega), if_pos (by omega)]
  | f + 1, r, hl => by
    show (if r.length = k then some r else (nodes g).findSome? fun c => if p r c = true then dfs p (nodes g) k f (r ++ [c]) else none) = (if r.length = k then some r else (nodes g).findSome? fun v => if (!r.contains v && may r v) = true then extend g may k (f + 1) (r ++ [v]) else none)
    rw [if_neg (by omega), if_neg (by omega)]
    congr 1
    funext c
    rw [h r c (by omega), dfs_extend h f (r ++ [c]) (by rw [List.length_append]; show r.length + 1 + f = k; omega)]
/-! ### rings -/
def ringSh (k : Nat) : List Row := [[]] ++ (List.range (k - 2)).map (fun i => [i]) ++ [[0, k - 2]]
theorem ringSh_len {k : Nat} (h : 2 ≤ k) : (ringSh k).length = k := by
  unfold ringSh
  simp
  omega
theorem ringSh_zero (k : Nat) : (ringSh k).getD 0 [] = [] := rfl
theorem ringSh_mid {k i : Nat} (h1 : 1 ≤ i) (h2 : i + 1 < k) : (ringSh k).getD i [] = [i - 1] := by
  obtain ⟨j, rfl⟩ : ∃ j, i = j + 1 := ⟨i - 1, by omega⟩
  unfold ringSh
  rw [List.getD_eq_getElem?_getD, List.append_assoc, List.getElem?_append_right (by simp), List.getElem?_append_left (by simp; omega), List.getElem?_map, List.getElem?_range (by simp; omega)]
  simp
theorem ringSh_last {k i : Nat} (h1 : 1 ≤ i) (h2 : i + 1 = k) : (ringSh k).getD i [] = [0, i - 1] := by
  subst h2
  unfold ringSh
  rw [List.getD_eq_getElem?_getD, List.getElem?_append_right (by simp; omega)]
  have : i - ([[]] ++ (List.range (i + 1 - 2)).map (fun i => [i])).length = 0 := by simp; omega
  rw [this]
  simp
theorem filt_one (q : Nat → Bool) (m : Nat) : ((List.range (m + 1)).filter q = [m]) ↔ q m = true ∧ ∀ j, j < m → q j = false := by
  rw [List.range_succ, List.filter_append]
  constructor
  · intro h
    have hm : q m = true := by
      have : m ∈ (List.range m).filter q ++ [m].filter q := by rw [h]; exact List.mem_cons_self
      rcases List.mem_append.mp this with z | z
      · exact absurd (List.mem_range.mp (List.mem_filter.mp z).1) (Nat.lt_irrefl _)
      · exact (List.mem_filter.mp z).2
    refine ⟨hm, fun j hj => ?_⟩
    cases e : q j with
    | false => rfl
    | true =>
      have : j ∈ (List.range m).filter q ++ [m].filter q := List.mem_append_left _ (List.mem_filter.mpr ⟨List.mem_range.mpr hj, e⟩)
      rw [h] at this
      have := List.mem_singleton.mp this
      omega
  · rintro ⟨h1, h2⟩
    have e : (List.range m).filter q = [] := by
      rw [List.filter_eq_nil_iff]
      intro j hj
      rw [h2 j (List.mem_range.mp hj)]; decide
    rw [e, List.filter_cons_of_pos h1]; rfl
theorem filt_two (q : Nat → Bool) {m : Nat} (hm : 1 ≤ m) : ((List.range (m + 1)).filter q = [0, m]) ↔ q 0 = true ∧ q m = true ∧ ∀ j, 1 ≤ j → j < m → q j = false := by
  constructor
  · intro h
    have mem : ∀ j, j < m + 1 → q j = true → j = 0 ∨ j = m := fun j hj e => by
      have : j ∈ (List.range (m + 1)).filter q := List.mem_filter.mpr ⟨List.mem_range.mpr hj, e⟩
      rw [h] at this
      simpa using this
    have h0 : (0 : Nat) ∈ (List.range (m + 1)).filter q := by rw [h]; simp
    have h1 : m ∈ (List.range (m + 1)).filter q := by rw [h]; simp
    refine ⟨(List.mem_filter.mp h0).2, (List.mem_filter.mp h1).2, fun j j1 j2 => ?_⟩
    cases e : q j with
    | false => rfl
    | true => rcases mem j (by omega) e with z | z <;> omega
  · rintro ⟨h0, h1, h2⟩
    obtain ⟨n, rfl⟩ : ∃ n, m = n + 1 := ⟨m - 1, by omega⟩
    rw [List.range_succ, List.filter_append, List.filter_cons_of_pos h1, List.range_succ_eq_map, List.filter_cons_of_pos h0]
    have e : (List.map Nat.succ (List.range n)).filter q = [] := by
      rw [List.filter_eq_nil_iff]
      intro j hj
      obtain ⟨i, hi, rfl⟩ := List.mem_map.mp hj
      have := List.mem_range.mp hi
      rw [h2 (i + 1) (by omega) (by omega)]; decide
    rw [e]; rfl
theorem node_zero (a : Nat) (b : Row) : node (a :: b) 0 = a := rfl
theorem node_succ (a : Nat) (b : Row) (j : Nat) : node (a :: b) (j + 1) = node b j := by unfold node; simp
theorem node_lastD (a : Nat) (b : Row) : node (a :: b) ((a :: b).length - 1) = (a :: b).getLastD a := by
  unfold node
  rw [List.getD_eq_getElem?_getD, List.getLastD_eq_getLast?, ← List.getLast?_eq_getElem?]
  rw [List.getLast?_eq_some_getLast (by simp)]; rfl
theorem dropLast_all (b : Row) (q : Nat → Bool) : b.dropLast.all q = true ↔ ∀ j, j + 1 < b.length → q (node b j) = true := by
  rw [List.all_eq_true]
  constructor
  · intro h j hj
    refine h _ ?_
    have : b.dropLast[j]? = some (node b j) := by
      rw [List.getElem?_dropLast, if_pos (by omega)]
      unfold node
      rw [List.getD_eq_getElem?_getD, List.getElem?_eq_getElem (by omega)]; rfl
    exact List.mem_of_getElem? this
  · intro h x hx
    obtain ⟨j, hj⟩ := List.getElem?_of_mem hx
    have hl := (List.getElem?_eq_some_iff.mp hj).1
    rw [List.length_dropLast] at hl
    have e : x = node b j := by
      rw [List.getElem?_dropLast, if_pos (by omega)] at hj
      unfold node
      rw [List.getD_eq_getElem?_getD, hj]; rfl
    rw [e]
    exact h j (by omega)
theorem shP_ring {g : Graph} {k : Nat} (hk : 3 ≤ k) (r : Row) (v : Nat) (hr : r.length < k) : shP g (ringSh k) r v = (!r.contains v && bareNext g k r v) := by
  unfold shP
  congr 1
  cases r with
  | nil => rfl
  | cons a b =>
    have hl : (a :: b).length = b.length + 1 := rfl
    have last : (a :: b).getLastD a = node (a :: b) b.length := by rw [← node_lastD]; rfl
    rw [Bool.eq_iff_iff, decide_eq_true_eq]
    by_cases e : (a :: b).length + 1 = k
    · rw [ringSh_last (by rw [hl]; omega) e, hl]
      have hb : 1 ≤ b.length := by rw [hl] at e; omega
      show ((List.range (b.length + 1)).filter (fun i => joined g (node (a :: b) i) v) = [0, b.length + 1 - 1]) ↔ _
      rw [Nat.add_sub_cancel, filt_two _ hb]
      show _ ↔ (joined g ((a :: b).getLastD a) v && (b.dropLast.all (fun u => !joined g u v) && (if (a :: b).length + 1 = k then joined g a v else b.isEmpty || !joined g a v))) = true
      rw [if_pos e, Bool.and_eq_true, Bool.and_eq_true, dropLast_all, last]
      constructor
      · rintro ⟨h0, h1, h2⟩
        refine ⟨h1, fun j hj => ?_, h0⟩
        have := h2 (j + 1) (by omega) (by omega)
        rw [node_succ] at this
        rw [this]; rfl
      · rintro ⟨h1, h2, h0⟩
        refine ⟨h0, h1, fun j j1 j2 => ?_⟩
        obtain ⟨i, rfl⟩ : ∃ i, j = i + 1 := ⟨j - 1, by omega⟩
        rw [node_succ]
        have := h2 i (by omega)
        simpa using this
    · rw [ringSh_mid (by rw [hl]; omega) (by rw [hl] at e hr ⊢; omega), hl]
      show ((List.range (b.length + 1)).filter (fun i => joined g (node (a :: b) i) v) = [b.length + 1 - 1]) ↔ _
      rw [Nat.add_sub_cancel, filt_one]
      show _ ↔ (joined g ((a :: b).getLastD a) v && (b.dropLast.all (fun u => !joined g u v) && (if (a :: b).length + 1 = k then joined g a v else b.isEmpty || !joined g a v))) = true
      rw [if_neg e, Bool.and_eq_true, Bool.and_eq_true, dropLast_all, last]
      constructor
      · rintro ⟨h1, h2⟩
        refine ⟨h1, fun j hj => ?_, ?_⟩
        · have := h2 (j + 1) (by omega)
          rw [node_succ] at this
          rw [this]; rfl
        · cases b with
          | nil => rfl
          | cons x y =>
            have := h2 0 (by simp)
            rw [node_zero] at this
            rw [this]; simp
      · rintro ⟨h1, h2, h0⟩
        refine ⟨h1, fun j hj => ?_⟩
        cases j with
        | zero =>
          cases b with
          | nil => simp at hj
          | cons x y =>
            rw [node_zero]
            simpa using h0
        | succ i =>
          rw [node_succ]
          have := h2 i (by omega)
          simpa using this
theorem chordless_dfs {g : Graph} {k : Nat} (hk : 3 ≤ k) : dfs (shP g (ringSh k)) (nodes g) k k [] = chordless g k := by
  unfold chordless rowOf
  exact dfs_extend (fun r v h => shP_ring hk r v h) k [] (by simp)
/-! ### all rows of so many nodes -/
def rf (g : Graph) : Nat → Row → List Row
  | 0, r => [r]
  | f + 1, r => ((nodes g).filter fun v => !r.contains v).flatMap fun v => rf g f (r ++ [v])
def ext1 (g : Graph) (r : Row) : List Row := ((nodes g).filter fun v => !r.contains v).map fun v => r ++ [v]
theorem rf_ext (g : Graph) : ∀ (f : Nat) (r : Row), rf g (f + 1) r = (rf g f r).flatMap (ext1 g)
  | 0, r => by
    show ((nodes g).filter fun v => !r.contains v).flatMap (fun v => [r ++ [v]]) = [r].flatMap (ext1 g)
    have e : ∀ l : List Nat, l.flatMap (fun v => [r ++ [v]]) = l.map fun v => r ++ [v] := by
      intro l
      induction l with
      | nil => rfl
      | cons x l ih => rw [List.flatMap_cons, ih]; rfl
    rw [e, List.flatMap_singleton]
    rfl
  | f + 1, r => by
    show ((nodes g).filter fun v => !r.contains v).flatMap (fun v => rf g (f + 1) (r ++ [v])) = (((nodes g).filter fun v => !r.contains v).flatMap fun v => rf g f (r ++ [v])).flatMap (ext1 g)
    rw [List.flatMap_assoc]
    congr 1
    funext v
    exact rf_ext g f (r ++ [v])
theorem rf_rows (g : Graph) : ∀ k, rf g k [] = rowsOf g k
  | 0 => rfl
  | k + 1 => by
    rw [rf_ext, rf_rows g k]
    rfl
theorem rf_pre {g : Graph} : ∀ {f : Nat} {r R : Row}, R ∈ rf g f r → R.take r.length = r ∧ R.length = r.length + f
  | 0, r, R, h => by
    rw [List.mem_singleton.mp h]
    exact ⟨List.take_length, rfl⟩
  | f + 1, r, R, h => by
    obtain ⟨v, _, hR⟩ := List.mem_flatMap.mp h
    obtain ⟨h1, h2⟩ := rf_pre hR
    rw [List.length_append] at h1 h2
    refine ⟨?_, by rw [h2]; show r.length + 1 + f = _; omega⟩
    have : R.take r.length = (R.take (r.length + [v].length)).take r.length := by rw [List.take_take]; congr 1; simp
    rw [this, h1, List.take_append_of_le_length (Nat.le_refl _), List.take_length]
theorem find_congr {p q : Row → Bool} : ∀ {l : List Row}, (∀ x ∈ l, p x = q x) → l.find? p = l.find? q
  | [], _ => rfl
  | x :: l, h => by
    rw [List.find?_cons, List.find?_cons, h x List.mem_cons_self, find_congr fun y hy => h y (List.mem_cons_of_mem _ hy)]
/-- each fits those ahead of it, from a place on -/
def okF (p : Row → Nat → Bool) (k j : Nat) (R : Row) : Bool := decide (∀ i, i < k → j ≤ i → p (R.take i) (node R i) = true)
theorem dfs_rf {g : Graph} {p : Row → Nat → Bool} (hp : ∀ r v, p r v = true → r.contains v = false) (k : Nat) : ∀ (f : Nat) (r : Row), r.length + f = k → dfs p (nodes g) k f r = (rf g f r).find? (okF p k r.length)
  | 0, r, hl => by
    show (if r.length = k then some r else none) = [r].find? (okF p k r.length)
    rw [if_pos (by omega)]
    have : okF p k r.length r = true := decide_eq_true fun i h1 h2 => by omega
    rw [List.find?_cons_of_pos this]
  | f + 1, r, hl => by
    show (if r.length = k then some r else (nodes g).findSome? fun c => if p r c = true then dfs p (nodes g) k f (r ++ [c]) else none) = (((nodes g).filter fun v => !r.contains v).flatMap fun v => rf g f (r ++ [v])).find? (okF p k r.length)
    rw [if_neg (by omega), List.find?_flatMap, ← find_filter]
    congr 1
    funext c
    have sub : ∀ R ∈ rf g f (r ++ [c]), R.take r.length = r ∧ node R r.length = c := fun R hR => by
      obtain ⟨h1, h2⟩ := rf_pre hR
      have h1' : R.take (r.length + 1) = r ++ [c] := by
        have : (r ++ [c]).length = r.length + 1 := by rw [List.length_append]; rfl
        rw [this] at h1; exact h1
      refine ⟨?_, ?_⟩
      · have : R.take r.length = (R.take (r.length + 1)).take r.length := by rw [List.take_take]; congr 1; omega
        rw [this, h1', List.take_append_of_le_length (Nat.le_refl _), List.take_length]
      · have e : R[r.length]? = some c := by
          have : (R.take (r.length + 1))[r.length]? = R[r.length]? := List.getElem?_take_of_lt (by omega)
          rw [← this, h1', List.getElem?_append_right (Nat.le_refl _)]
          simp
        unfold node
        rw [List.getD_eq_getElem?_getD, e]; rfl
    by_cases hc : p r c = true
    · rw [if_pos hc, if_pos (by rw [hp r c hc]; rfl), dfs_rf hp k f (r ++ [c]) (by rw [List.length_append]; show r.length + 1 + f = k; omega)]
      refine find_congr fun R hR => ?_
      obtain ⟨h1, h2⟩ := sub R hR
      unfold okF
      rw [List.length_append]
      refine decide_eq_decide.mpr ⟨fun h i i1 i2 => ?_, fun h i i1 i2 => h i i1 (by have : r.length + 1 ≤ i := i2; omega)⟩
      by_cases e : i = r.length
      · subst e
        rw [h1, h2]; exact hc
      · exact h i i1 (by show r.length + 1 ≤ i; omega)
    · rw [if_neg hc]
      have none_ : (rf g f (r ++ [c])).find? (okF p k r.length) = none := by
        rw [List.find?_eq_none]
        intro R hR z
        obtain ⟨h1, h2⟩ := sub R hR
        have := of_decide_eq_true z r.length (by omega) (Nat.le_refl _)
        rw [h1, h2] at this
        exact hc this
      rw [none_]
      split <;> rfl
theorem dfs_find {g : Graph} {p : Row → Nat → Bool} (hp : ∀ r v, p r v = true → r.contains v = false) {k : Nat} {t : Row → Bool} (ht : ∀ R ∈ rowsOf g k, okF p k 0 R = t R) : dfs p (nodes g) k k [] = (rowsOf g k).find? t := by
  rw [dfs_rf hp k k [] (by simp), rf_rows]
  exact find_congr fun R hR => ht R hR
theorem shP_new {g : Graph} {sh : List Row} (r : Row) (v : Nat) (h : shP g sh r v = true) : r.contains v = false := by
  unfold shP at h
  rw [Bool.and_eq_true] at h
  simpa using h.1
/-! ### four nodes -/
theorem okF_four {g : Graph} {sh : List Row} {a b c d : Nat} (nd : [a, b, c, d].Nodup) : okF (shP g sh) 4 0 [a, b, c, d] = (decide ([] = sh.getD 0 []) && (decide ((List.range 1).filter (fun i => joined g (node [a] i) b) = sh.getD 1 []) && (decide ((List.range 2).filter (fun i => joined g (node [a, b] i) c) = sh.getD 2 []) && decide ((List.range 3).filter (fun i => joined g (node [a, b, c] i) d) = sh.getD 3 [])))) := by
  have n1 : [a].contains b = false := by
    simp only [List.nodup_cons, List.mem_cons, not_or] at nd
    simp [Ne.symm nd.1.1]
  have n2 : [a, b].contains c = false := by
    simp only [List.nodup_cons, List.mem_cons, not_or] at nd
    simp [Ne.symm nd.1.2.1, Ne.symm nd.2.1.1]
  have n3 : [a, b, c].contains d = false := by
    simp only [List.nodup_cons, List.mem_cons, not_or] at nd
    simp [Ne.symm nd.1.2.2.1, Ne.symm nd.2.1.2.1, Ne.symm nd.2.2.1.1]
  have e0 : shP g sh [] a = decide ([] = sh.getD 0 []) := rfl
  have e1 : shP g sh [a] b = decide ((List.range 1).filter (fun i => joined g (node [a] i) b) = sh.getD 1 []) := by unfold shP; rw [n1]; rfl
  have e2 : shP g sh [a, b] c = decide ((List.range 2).filter (fun i => joined g (node [a, b] i) c) = sh.getD 2 []) := by unfold shP; rw [n2]; rfl
  have e3 : shP g sh [a, b, c] d = decide ((List.range 3).filter (fun i => joined g (node [a, b, c] i) d) = sh.getD 3 []) := by unfold shP; rw [n3]; rfl
  rw [← e0, ← e1, ← e2, ← e3]
  unfold okF
  rw [Bool.eq_iff_iff, decide_eq_true_eq, Bool.and_eq_true, Bool.and_eq_true, Bool.and_eq_true]
  constructor
  · intro h
    exact ⟨h 0 (by decide) (by decide), h 1 (by decide) (by decide), h 2 (by decide) (by decide), h 3 (by decide) (by decide)⟩
  · rintro ⟨h0, h1, h2, h3⟩ i hi _
    match i, hi with
    | 0, _ => exact h0
    | 1, _ => exact h1
    | 2, _ => exact h2
    | 3, _ => exact h3
theorem four_of {g : Graph} {r : Row} (h : r ∈ rowsOf g 4) : ∃ a b c d, r = [a, b, c, d] ∧ [a, b, c, d].Nodup := by
  obtain ⟨h1, h2, _⟩ := rowsOf_mem h
  match r, h1 with
  | [a, b, c, d], _ => exact ⟨a, b, c, d, rfl, h2⟩
def pathSh : List Row := [[], [0], [1], [2]]
def pairsSh : List Row := [[], [0], [], [2]]
theorem path_dfs (g : Graph) : dfs (shP g pathSh) (nodes g) 4 4 [] = (rowsOf g 4).find? (isPath4 g) := by
  refine dfs_find shP_new fun R hR => ?_
  obtain ⟨a, b, c, d, rfl, nd⟩ := four_of hR
  rw [okF_four nd]
  unfold isPath4 four node pathSh
  simp only [List.getD_cons_zero, List.getD_cons_succ, List.range_succ, List.range_zero, List.nil_append, List.cons_append, List.filter_cons, List.filter_nil]
  cases joined g a b <;> cases joined g a c <;> cases joined g b c <;> cases joined g a d <;> cases joined g b d <;> cases joined g c d <;> rfl
theorem pairs_dfs (g : Graph) : dfs (shP g pairsSh) (nodes g) 4 4 [] = (rowsOf g 4).find? (isPairs4 g) := by
  refine dfs_find shP_new fun R hR => ?_
  obtain ⟨a, b, c, d, rfl, nd⟩ := four_of hR
  rw [okF_four nd]
  unfold isPairs4 four node pairsSh
  simp only [List.getD_cons_zero, List.getD_cons_succ, List.range_succ, List.range_zero, List.nil_append, List.cons_append, List.filter_cons, List.filter_nil]
  cases joined g a b <;> cases joined g a c <;> cases joined g b c <;> cases joined g a d <;> cases joined g b d <;> cases joined g c d <;> rfl
theorem ring4_dfs (g : Graph) : dfs (shP g (ringSh 4)) (nodes g) 4 4 [] = (rowsOf g 4).find? (isRing4 g) := by
  refine dfs_find shP_new fun R hR => ?_
  obtain ⟨a, b, c, d, rfl, nd⟩ := four_of hR
  rw [okF_four nd]
  have e : ringSh 4 = [[], [0], [1], [0, 2]] := rfl
  rw [e]
  unfold isRing4 four node
  simp only [List.getD_cons_zero, List.getD_cons_succ, List.range_succ, List.range_zero, List.nil_append, List.cons_append, List.filter_cons, List.filter_nil]
  cases joined g a b <;> cases joined g a c <;> cases joined g b c <;> cases joined g a d <;> cases joined g b d <;> cases joined g c d <;> rfl
theorem nopath_eq (ns : List Int) : PyWrgood.nopath ns = if isGraph (WrgoodNeutral.graph ns) = true then (match barePath (WrgoodNeutral.graph ns) with | some r => 0 :: r.map (fun (k : Nat) => (k : Int)) | none => [1]) else [-1] := by
  show WrgoodNeutral.told (if isGraph (WrgoodNeutral.graph ns) = true then Wrgood.kindOf (barePath (WrgoodNeutral.graph ns)) [] else .no (-1)) = _
  by_cases h : isGraph (WrgoodNeutral.graph ns) = true
  · rw [if_pos h, if_pos h]
    unfold Wrgood.kindOf
    cases barePath (WrgoodNeutral.graph ns) <;> rfl
  · rw [if_neg h, if_neg h]; rfl
end Gm

end
section
/-! chordal: the order, depth first -/
namespace Gm
open Gg
def near (g : Graph) (r : Row) (v : Nat) : Row := ((List.range 8).filter fun u => (g.getD v 0).testBit u).filter fun u => !r.contains u
def leadP (g : Graph) (r : Row) (v : Nat) : Bool := !r.contains v && (near g r v).all fun u => decide (((near g r v).filter fun x => joined g u x).length + 1 = (near g r v).length)
def leftOf (g : Graph) (r : Row) : Row := (nodes g).filter fun u => !r.contains u
theorem near_eq {g : Graph} (o : Ok g) (r : Row) (v : Nat) : near g r v = (leftOf g r).filter fun u => joined g v u := by
  unfold near leftOf nodes
  have e : List.range 8 = List.range g.length ++ (List.range (8 - g.length)).map (g.length + ·) := by
    rw [← List.range_add]; congr 1; have := o.le; omega
  have z : ((List.range (8 - g.length)).map (g.length + ·)).filter (fun u => (g.getD v 0).testBit u) = [] := by
    rw [List.filter_eq_nil_iff]
    intro a ha
    obtain ⟨k, _, rfl⟩ := List.mem_map.mp ha
    intro z
    have := (o.joined_lt (i := v) (j := g.length + k) z).2
    omega
  rw [e, List.filter_append, z, List.append_nil, List.filter_filter, List.filter_filter]
  refine List.filter_congr fun u _ => ?_
  rw [Bool.and_comm]; rfl
theorem leadP_eq {g : Graph} (o : Ok g) (r : Row) (v : Nat) : leadP g r v = (!r.contains v && simplicial g (leftOf g r) v) := by
  unfold leadP simplicial
  congr 1
  rw [near_eq o]
  generalize hl : ((leftOf g r).filter fun u => joined g v u) = l
  have nd : l.Nodup := by
    rw [← hl]
    unfold leftOf nodes
    exact List.Nodup.sublist List.filter_sublist (List.Nodup.sublist List.filter_sublist List.nodup_range)
  show l.all (fun u => decide ((l.filter fun x => joined g u x).length + 1 = l.length)) = l.all fun a => l.all fun b => a == b || joined g a b
  rw [Bool.eq_iff_iff, List.all_eq_true, List.all_eq_true]
  refine forall_congr' fun u => forall_congr' fun hu => ?_
  rw [decide_eq_true_eq, List.all_eq_true, ← filter_ne_len nd hu]
  have sub : l.filter (fun x => joined g u x) = (l.filter fun x => x != u).filter fun x => joined g u x := by
    rw [List.filter_filter]
    refine List.filter_congr fun x _ => ?_
    cases e : joined g u x with
    | false => rfl
    | true =>
      have : x ≠ u := fun z => by rw [z, o.self' u] at e; cases e
      simp [this]
  constructor
  · intro h b hb
    rw [Bool.or_eq_true]
    by_cases e : u = b
    · left; simp [e]
    · right
      have hl2 : ((l.filter fun x => x != u).filter fun x => joined g u x).length = (l.filter fun x => x != u).length := by rw [← sub]; omega
      have := List.length_filter_eq_length_iff.mp hl2 b (List.mem_filter.mpr ⟨hb, by simpa using Ne.symm e⟩)
      exact this
  · intro h
    have : (l.filter fun x => x != u).filter (fun x => joined g u x) = l.filter fun x => x != u := by
      rw [List.filter_eq_self]
      intro x hx
      obtain ⟨h1, h2⟩ := List.mem_filter.mp hx
      have := h x h1
      rw [Bool.or_eq_true] at this
      rcases this with q | q
      · have e := beq_iff_eq.mp q
        rw [e] at h2; simp at h2
      · exact q
    rw [sub, this]
theorem left_snoc (g : Graph) (r : Row) (v : Nat) : leftOf g (r ++ [v]) = (leftOf g r).filter fun u => u != v := by
  unfold leftOf
  rw [List.filter_filter]
  refine List.filter_congr fun u _ => ?_
  rw [List.contains_append]
  by_cases e : u = v
  · simp [e]
  · simp [e]
theorem findSome_first {α β : Type} {p : α → Bool} {f : α → Option β} : ∀ {l : List α} {m : α} {y : β}, l.find? p = some m → f m = some y → l.findSome? (fun x => if p x = true then f x else none) = some y
  | [], _, _, h, _ => by cases h
  | x :: l, m, y, h, hm => by
    rw [List.find?_cons] at h
    rw [List.findSome?_cons]
    cases e : p x with
    | true =>
      rw [e] at h
      have h : some x = some m := h
      cases h
      rw [if_pos rfl, hm]
    | false =>
      rw [e] at h
      have := findSome_first (l := l) h hm
      simpa using this
theorem lead_dfs {g : Graph} (o : Ok g) (h : fst g (want 4 1) g.length = none) : ∀ (f : Nat) (r : Row), r.length + f = g.length → (leftOf g r).length = f → dfs (leadP g) (nodes g) g.length f r = some (r ++ peel g f (leftOf g r))
  | 0, r, hl, hf => by
    show (if r.length = g.length then some r else none) = some (r ++ [])
    rw [if_pos (by omega), List.append_nil]
  | f + 1, r, hl, hf => by
    show (if r.length = g.length then some r else (nodes g).findSome? fun c => if leadP g r c = true then dfs (leadP g) (nodes g) g.length f (r ++ [c]) else none) = _
    rw [if_neg (by omega)]
    have hlt : ∀ u ∈ leftOf g r, u < g.length := fun u hu => List.mem_range.mp (List.mem_filter.mp hu).1
    have hne : leftOf g r ≠ [] := by intro z; rw [z] at hf; cases hf
    have srt : (leftOf g r).Pairwise (· < ·) := by
      unfold leftOf nodes
      exact List.Pairwise.filter _ List.pairwise_lt_range
    have hnd : (leftOf g r).Nodup := by
      unfold leftOf nodes
      exact List.Nodup.sublist List.filter_sublist List.nodup_range
    obtain ⟨c0, hc0, hs0⟩ := lead_some o h hlt hne
    -- the first that can lead
    have hfs : ∃ m, (leftOf g r).find? (fun v => simplicial g (leftOf g r) v) = some m := by
      cases e : (leftOf g r).find? (fun v => simplicial g (leftOf g r) v) with
      | some m => exact ⟨m, rfl⟩
      | none => exact absurd hs0 (by rw [List.find?_eq_none] at e; exact e c0 hc0)
    obtain ⟨m, hm⟩ := hfs
    have hmm := List.mem_of_find?_eq_some hm
    have hfind : (nodes g).find? (leadP g r) = some m := by
      have e : (nodes g).find? (leadP g r) = (leftOf g r).find? (fun v => simplicial g (leftOf g r) v) := by
        unfold leftOf
        rw [List.find?_filter]
        congr 1
        funext v
        rw [leadP_eq o]
        unfold leftOf
        cases (!r.contains v) <;> cases simplicial g ((nodes g).filter fun u => !r.contains u) v <;> rfl
      rw [e, hm]
    have hlen : (leftOf g (r ++ [m])).length = f := by
      rw [left_snoc]
      have := filter_ne_len hnd hmm
      omega
    have ih := lead_dfs o h f (r ++ [m]) (by rw [List.length_append]; show r.length + 1 + f = _; omega) hlen
    rw [findSome_first hfind ih, left_snoc, List.append_assoc]
    have ep : peel g (f + 1) (leftOf g r) = m :: peel g f ((leftOf g r).filter fun u => u != m) := by
      show (match (leftOf g r).find? (fun v => simplicial g (leftOf g r) v) with | some v => v :: peel g f ((leftOf g r).filter fun u => u != v) | none => []) = _
      rw [hm]
    rw [ep]; rfl
theorem chordal_dfs {g : Graph} (o : Ok g) (h : fst g (want 4 1) g.length = none) : dfs (leadP g) (nodes g) g.length g.length [] = some (order g) := by
  have e : leftOf g [] = nodes g := by unfold leftOf; simp
  have := lead_dfs o h g.length [] (by simp) (by rw [e]; unfold nodes; rw [List.length_range])
  rw [this, e]; rfl
theorem chordless_len {g : Graph} {k : Nat} {r : Row} (hk : 1 ≤ k) (h : chordless g k = some r) : r.length = k := by
  rw [chordless_head g hk] at h
  exact rings_len hk r (List.mem_of_mem_head? h)
def lens4L (n : Nat) : List Nat := (List.range (n - 3)).map fun i => 4 + i
theorem chordlessRing_lens {g : Graph} (o : Ok g) : chordlessRing g = (lens4L g.length).findSome? fun k => chordless g k := by
  have e : ∀ n, n ≤ 8 → [4, 5, 6, 7, 8].filter (fun k => decide (k ≤ n)) = lens4L n := by decide
  unfold chordlessRing firstOf
  rw [e _ o.le]
theorem order_len {g : Graph} (o : Ok g) (h : fst g (want 4 1) g.length = none) : (order g).length = g.length := by
  have := chordal_dfs o h
  have key : ∀ (p : Row → Nat → Bool) (ch : List Nat) (k f : Nat) (r R : Row), dfs p ch k f r = some R → R.length = k := by
    intro p ch k f
    induction f with
    | zero =>
      intro r R e
      have e : (if r.length = k then some r else none) = some R := e
      by_cases z : r.length = k
      · rw [if_pos z] at e; cases e; exact z
      · rw [if_neg z] at e; cases e
    | succ f ih =>
      intro r R e
      have e : (if r.length = k then some r else ch.findSome? fun c => if p r c = true then dfs p ch k f (r ++ [c]) else none) = some R := e
      by_cases z : r.length = k
      · rw [if_pos z] at e; cases e; exact z
      · rw [if_neg z] at e
        obtain ⟨c, _, e⟩ := List.exists_of_findSome?_eq_some e
        by_cases y : p r c = true
        · rw [if_pos y] at e; exact ih _ _ e
        · rw [if_neg y] at e; cases e
  exact key _ _ _ _ _ _ this
end Gm

end
section
/-! comes: among any nodes -/
namespace Gm
open Gg
abbrev Am (g : Graph) (p : Nat → Bool) : Nat → Prop := fun u => u < g.length ∧ p u = true
def grownA (g : Graph) (p : Nat → Bool) (l : Row) : Row := (nodes g).filter fun v => l.contains v || (p v && l.any fun u => joined g u v)
theorem mem_grownA {g : Graph} {p : Nat → Bool} {l : Row} {v : Nat} : v ∈ grownA g p l ↔ v < g.length ∧ (v ∈ l ∨ p v = true ∧ ∃ u ∈ l, joined g u v = true) := by
  unfold grownA nodes
  rw [List.mem_filter, List.mem_range]
  simp
theorem Rc.app {g : Graph} {D : Nat → Prop} {x k y l z : Nat} (a : Rc g D x k y) (b : Rc g D y l z) : Rc g D x (k + l) z := by
  induction b with
  | zero => exact a
  | step _ j d ih => exact .step ih j d
theorem spreadA_sound (g : Graph) (p : Nat → Bool) : ∀ (f : Nat) (l : Row) (b : Nat), b ∈ spread g p f l → ∃ a ∈ l, ∃ k, Rc g (Am g p) a k b
  | 0, l, b, h => ⟨b, h, 0, .zero⟩
  | f + 1, l, b, h => by
    obtain ⟨a, ha, k, r⟩ := spreadA_sound g p f (grownA g p l) b h
    obtain ⟨h1, h2 | ⟨h4, u, h2, h3⟩⟩ := mem_grownA.mp ha
    · exact ⟨a, h2, k, r⟩
    · have s1 : Rc g (Am g p) u 1 a := .step .zero h3 ⟨h1, h4⟩
      exact ⟨u, h2, _, s1.app r⟩
theorem spreadA_keep (g : Graph) (p : Nat → Bool) : ∀ (f : Nat) (l : Row) (b : Nat), b < g.length → b ∈ l → b ∈ spread g p f l
  | 0, _, _, _, h => h
  | f + 1, l, b, hb, h => spreadA_keep g p f (grownA g p l) b hb (mem_grownA.mpr ⟨hb, .inl h⟩)
theorem spreadA_add (g : Graph) (p : Nat → Bool) : ∀ (f e : Nat) (l : Row), spread g p (f + e) l = spread g p e (spread g p f l)
  | 0, e, l => by rw [Nat.zero_add]; rfl
  | f + 1, e, l => by
    rw [show f + 1 + e = (f + e) + 1 by omega]
    exact spreadA_add g p f e (grownA g p l)
theorem spreadA_way {g : Graph} {p : Nat → Bool} {a k b : Nat} (h : Rc g (Am g p) a k b) : b ∈ spread g p k [a] := by
  induction h with
  | zero => exact List.mem_singleton.mpr rfl
  | @step k u v r j d ih =>
    rw [spreadA_add g p k 1]
    show v ∈ grownA g p _
    exact mem_grownA.mpr ⟨d.1, .inr ⟨d.2, u, ih, j⟩⟩
theorem comesA_iff {g : Graph} {p : Nat → Bool} {a b : Nat} (ha : a < g.length) : comes g p a b = true ↔ p a = true ∧ ∃ k, Rc g (Am g p) a k b := by
  unfold comes
  rw [Bool.and_eq_true]
  refine and_congr_right fun _ => ?_
  constructor
  · intro h
    obtain ⟨c, hc, k, r⟩ := spreadA_sound g p _ _ b (by simpa using h)
    rw [List.mem_singleton.mp hc] at r
    exact ⟨k, r⟩
  · rintro ⟨k, r⟩
    obtain ⟨m, rm, hm⟩ := least_of (P := fun k => Rc g (Am g p) a k b) r
    obtain ⟨s, os, hl, _⟩ := shortest (D := Am g p) ha (fun _ h => h.1) m b rm hm
    have := nodup_len g.length s os.nodup os.lt
    have h1 := spreadA_way rm
    have h2 := spreadA_keep g p (g.length - m) _ b (rm.or.elim (fun e => e ▸ ha) fun h => h.1) h1
    rw [← spreadA_add, show m + (g.length - m) = g.length by omega] at h2
    simpa using h2
end Gm

end
section
/-! intervals: with no chordless ring and no three far apart the greatest cliques can be lined up -/
namespace Gm
open Gg
open Classical
/-- v is u or joined with it -/
def Nb (g : Graph) (u v : Nat) : Prop := u = v ∨ joined g u v = true
/-- among D, outside b's neighbours -/
abbrev Av (g : Graph) (D : Nat → Prop) (b : Nat) : Nat → Prop := fun u => D u ∧ ¬ Nb g b u
/-- x comes to y past b -/
def Con (g : Graph) (D : Nat → Prop) (b x y : Nat) : Prop := Av g D b x ∧ ∃ k, Rc g (Av g D b) x k y
theorem Nb.symm {g : Graph} (o : Ok g) {u v : Nat} (h : Nb g u v) : Nb g v u := h.elim (fun e => .inl e.symm) fun e => .inr (by rw [o.sym']; exact e)
theorem Con.left {g : Graph} {D : Nat → Prop} {b x y : Nat} (h : Con g D b x y) : Av g D b x := h.1
theorem Con.right {g : Graph} {D : Nat → Prop} {b x y : Nat} (h : Con g D b x y) : Av g D b y := by
  obtain ⟨h1, k, r⟩ := h
  exact r.or.elim (fun e => e ▸ h1) id
theorem Con.refl {g : Graph} {D : Nat → Prop} {b x : Nat} (h : Av g D b x) : Con g D b x x := ⟨h, 0, .zero⟩
theorem Con.symm {g : Graph} (o : Ok g) {D : Nat → Prop} {b x y : Nat} (h : Con g D b x y) : Con g D b y x := by
  have hr := h.right
  obtain ⟨h1, k, r⟩ := h
  exact ⟨hr, r.symm o h1⟩
theorem Con.trans {g : Graph} {D : Nat → Prop} {b x y z : Nat} (h : Con g D b x y) (h' : Con g D b y z) : Con g D b x z := by
  obtain ⟨h1, k, r⟩ := h
  obtain ⟨h2, l, s⟩ := h'
  exact ⟨h1, r.trans s⟩
theorem Con.step {g : Graph} {D : Nat → Prop} {b x y z : Nat} (h : Con g D b x y) (j : joined g y z = true) (hz : Av g D b z) : Con g D b x z := by
  obtain ⟨h1, k, r⟩ := h
  exact ⟨h1, k + 1, .step r j hz⟩
theorem Con.nb {g : Graph} {D : Nat → Prop} {b x y z : Nat} (h : Con g D b x y) (j : Nb g y z) (hz : Av g D b z) : Con g D b x z := j.elim (fun e => e ▸ h) fun e => h.step e hz
theorem Con.mono {g : Graph} {D D' : Nat → Prop} (s : ∀ u, D u → D' u) {b x y : Nat} (h : Con g D b x y) : Con g D' b x y := by
  obtain ⟨h1, k, r⟩ := h
  exact ⟨⟨s _ h1.1, h1.2⟩, k, r.mono fun u hu => ⟨s _ hu.1, hu.2⟩⟩
/-- a part outside v's neighbours that lies outside a's, too -/
theorem Con.move {g : Graph} {D : Nat → Prop} {v a x y : Nat} (h : Con g D v x y) (s : ∀ z, Con g D v x z → ¬ Nb g a z) : Con g D a x y := by
  obtain ⟨h1, k, r⟩ := h
  have hx : Con g D a x x := .refl ⟨h1.1, s x (.refl h1)⟩
  have : ∀ k y, Rc g (Av g D v) x k y → Con g D a x y := by
    intro k y r
    induction r with
    | zero => exact hx
    | @step k u w ru j d ih => exact ih.step j ⟨d.1, s w ⟨h1, k + 1, .step ru j d⟩⟩
  exact this k y r
/-- where a way leaves the part of b outside v's neighbours -/
theorem Con.exit {g : Graph} (o : Ok g) {D : Nat → Prop} {v a b : Nat} (h : Con g D a b v) (hb : Av g D v b) : ∃ q t, Con g D v b q ∧ joined g q t = true ∧ joined g v t = true ∧ Av g D a t := by
  obtain ⟨h1, k, r⟩ := h
  have : ∀ k y, Rc g (Av g D a) b k y → Con g D v b y ∨ ∃ q t, Con g D v b q ∧ joined g q t = true ∧ joined g v t = true ∧ Av g D a t := by
    intro k y r
    induction r with
    | zero => exact .inl (.refl hb)
    | @step k u w ru j d ih =>
      rcases ih with q | q
      · by_cases e : Nb g v w
        · rcases e with e | e
          · subst e
            exact absurd (.inr (by rw [o.sym']; exact j)) q.right.2
          · exact .inr ⟨u, w, q, j, e, d⟩
        · exact .inl (q.step j ⟨d.1, e⟩)
      · exact .inr q
  rcases this k v r with q | q
  · exact absurd (.inl rfl) q.right.2
  · exact q
/-! ### what is asked -/
def ATfree (g : Graph) (D : Nat → Prop) : Prop := ∀ a b c, Con g D c a b → Con g D a b c → Con g D b a c → False
structure SOk (g : Graph) (D : Nat → Prop) (S : Nat → Prop) : Prop where
  lt : ∀ u, D u → u < g.length
  at_ : ATfree g D
  sub : ∀ s, S s → D s
  clq : ∀ s t, S s → S t → Nb g s t
  good : ∀ a b s t, S s → S t → Con g D b a s → Con g D a b t → False
/-- joined with all of S, or of it -/
def Um (g : Graph) (D S : Nat → Prop) (u : Nat) : Prop := D u ∧ ∀ s, S s → Nb g s u
/-- the size of x's part outside v's neighbours, and 10 more if it has a node that isn't joined with all of S -/
noncomputable def cz (g : Graph) (D : Nat → Prop) (v x : Nat) : Nat := cnt (fun y => decide (Con g D v x y)) g.length
def Non (g : Graph) (D S : Nat → Prop) (v x : Nat) : Prop := ∃ y, Con g D v x y ∧ ¬ Um g D S y
noncomputable def ez (g : Graph) (D S : Nat → Prop) (v x : Nat) : Nat := cz g D v x + if Non g D S v x then 10 else 0
noncomputable def fz (g : Graph) (D S : Nat → Prop) (v x : Nat) : Nat := if Av g D v x then 10 ^ ez g D S v x else 0
noncomputable def Psi (g : Graph) (D S : Nat → Prop) (v : Nat) : Nat := tot (fz g D S v) g.length
theorem tot_mul (c : Nat) : ∀ n, tot (fun _ => c) n = n * c
  | 0 => by rw [Nat.zero_mul]; rfl
  | n + 1 => by
    show tot (fun _ => c) n + c = _
    rw [tot_mul c n, Nat.succ_mul]
theorem tot_beat {f h : Nat → Nat} {n z E : Nat} (hn : n ≤ 8) (L : Nat → Prop) (hz : z < n) (k : ∀ x, x < n → ¬ L x → f x ≤ h x) (l : ∀ x, x < n → L x → f x ≤ 10 ^ E) (nz : ¬ L z) (b : f z + 9 * 10 ^ E ≤ h z) : tot f n < tot h n := by
  have e1 : tot f n ≤ tot (fun x => (if L x then 0 else f x) + 10 ^ E) n := tot_le n fun x hx => by
    by_cases q : L x
    · rw [if_pos q]; have := l x hx q; omega
    · rw [if_neg q]; omega
  rw [tot_add, tot_mul] at e1
  have e2 : tot (fun x => (if L x then 0 else f x)) n + 9 * 10 ^ E ≤ tot h n := by
    have e3 := tot_at (f := fun x => if x = z then h z - 9 * 10 ^ E else h x) (h := h) (x := z) n hz (fun i _ hi => by simp [hi])
    simp only [if_pos] at e3
    have e4 : tot (fun x => (if L x then 0 else f x)) n ≤ tot (fun x => if x = z then h z - 9 * 10 ^ E else h x) n := tot_le n fun x hx => by
      by_cases q : x = z
      · subst q
        simp only [if_pos, if_neg nz]
        omega
      · rw [if_neg q]
        by_cases q2 : L x
        · rw [if_pos q2]; exact Nat.zero_le _
        · rw [if_neg q2]; exact k x hx q2
    omega
  have e5 : n * 10 ^ E ≤ 8 * 10 ^ E := Nat.mul_le_mul_right _ hn
  have := Nat.two_pow_pos 1
  have e6 : 0 < 10 ^ E := Nat.pow_pos (by decide)
  omega
section
variable {g : Graph} (o : Ok g) {D S : Nat → Prop}
theorem cz_le (v x : Nat) : cz g D v x ≤ g.length := by
  unfold cz cnt
  have := List.length_filter_le (fun y => decide (Con g D v x y)) (List.range g.length)
  rw [List.length_range] at this
  exact this
theorem cz_pos (lt : ∀ u, D u → u < g.length) {v x : Nat} (h : Av g D v x) : 1 ≤ cz g D v x := by
  have := cnt_lt (p := fun _ => false) (q := fun y => decide (Con g D v x y)) (y := x) g.length (fun _ _ h => by cases h) (lt _ h.1) rfl (by simpa using Con.refl h)
  unfold cz
  omega
theorem cz_mono {v a x : Nat} (h : ∀ y, Con g D v x y → Con g D a x y) : cz g D v x ≤ cz g D a x := cnt_le _ fun i _ hi => by
  rw [decide_eq_true_eq] at hi ⊢
  exact h i hi
theorem ez_mono {v a x : Nat} (h : ∀ y, Con g D v x y → Con g D a x y) : ez g D S v x ≤ ez g D S a x := by
  have h1 := cz_mono h
  unfold ez
  by_cases q : Non g D S v x
  · have : Non g D S a x := by
      obtain ⟨y, y1, y2⟩ := q
      exact ⟨y, h y y1, y2⟩
    rw [if_pos q, if_pos this]; omega
  · rw [if_neg q]; omega
theorem fz_mono {v a x : Nat} (hx : Av g D v x) (h : ∀ y, Con g D v x y → Con g D a x y) : fz g D S v x ≤ fz g D S a x := by
  have h1 := ez_mono (S := S) h
  have h2 : Av g D a x := (h x (.refl hx)).left
  unfold fz
  rw [if_pos hx, if_pos h2]
  exact Nat.pow_le_pow_right (by decide) h1
theorem fz_out {v x : Nat} (h : ¬ Av g D v x) : fz g D S v x = 0 := by unfold fz; rw [if_neg h]
include o in
theorem ez_same {v x y : Nat} (h : Con g D v x y) : ez g D S v x = ez g D S v y := by
  have e : ∀ z, Con g D v x z ↔ Con g D v y z := fun z => ⟨fun q => (h.symm o).trans q, fun q => h.trans q⟩
  unfold ez cz Non
  simp only [e]
theorem ez_non {v x : Nat} (lt : ∀ u, D u → u < g.length) (hx : Av g D v x) (h : Non g D S v x) : 11 ≤ ez g D S v x := by
  unfold ez
  rw [if_pos h]
  have := cz_pos lt hx
  omega
theorem ez_yes {v x : Nat} (h8 : g.length ≤ 8) (h : ¬ Non g D S v x) : ez g D S v x ≤ 8 := by
  unfold ez
  rw [if_neg h]
  have := cz_le (g := g) (D := D) v x
  omega
include o in
/-- a node of a part that's no greater, outside of which another part comes to v: it beats v -/
theorem beat (lt : ∀ u, D u → u < g.length) {v a b : Nat} (ha : Av g D v a) (hb : Av g D v b) (nab : ¬ Con g D v a b) (hv : Con g D a b v) (he : ez g D S v a ≤ ez g D S v b) : Psi g D S v < Psi g D S a := by
  have keep : ∀ x, Av g D v x → ¬ Con g D v a x → ∀ y, Con g D v x y → Con g D a x y := fun x hx nx y hy => hy.move fun z hz hn => by
    refine nx ?_
    have : Con g D v a z := (Con.refl ha).nb hn hz.right
    exact this.trans (hz.symm o)
  unfold Psi
  refine tot_beat o.le (fun x => Con g D v a x) (z := b) (E := ez g D S v b) (lt b hb.1) (fun x _ nx => ?_) (fun x _ hx => ?_) nab ?_
  · by_cases q : Av g D v x
    · exact fz_mono q (keep x q nx)
    · rw [fz_out q]; exact Nat.zero_le _
  · unfold fz
    rw [if_pos hx.right, ← ez_same o hx]
    exact Nat.pow_le_pow_right (by decide) he
  · have h1 : cz g D v b < cz g D a b := cnt_lt (y := v) g.length (fun i _ hi => by
        rw [decide_eq_true_eq] at hi ⊢
        exact keep b hb nab i hi) (lt v hv.right.1) (by simpa using fun z => (Con.right z).2 (.inl rfl)) (by simpa using hv)
    have h2 : ez g D S v b + 1 ≤ ez g D S a b := by
      unfold ez
      by_cases q : Non g D S v b
      · have : Non g D S a b := by
          obtain ⟨y, y1, y2⟩ := q
          exact ⟨y, keep b hb nab y y1, y2⟩
        rw [if_pos q, if_pos this]; omega
      · rw [if_neg q]; omega
    unfold fz
    rw [if_pos hb, if_pos hv.left]
    have h3 : 10 ^ (ez g D S v b + 1) ≤ 10 ^ ez g D S a b := Nat.pow_le_pow_right (by decide) h2
    rw [Nat.pow_succ] at h3
    omega
include o in
/-- two neighbours of v at one part outside its neighbours are joined -/
theorem part_clq (no : ∀ k, 4 ≤ k → rings g k = []) (lt : ∀ u, D u → u < g.length) {v x y p q : Nat} (hx : joined g v x = true) (hy : joined g v y = true) (hxp : joined g x p = true) (hyq : joined g y q = true) (h : Con g D v p q) : Nb g x y := by
  refine Classical.byContradiction fun nb => ?_
  have ne : x ≠ y := fun e => nb (.inl e)
  have nj : joined g x y = false := by
    cases e : joined g x y with
    | false => rfl
    | true => exact absurd (.inr e) nb
  obtain ⟨h1, k, r⟩ := h
  have hD : ∀ u, Av g D v u → joined g v u = false ∧ u ≠ v ∧ u < g.length := fun u hu => by
    refine ⟨?_, fun e => hu.2 (.inl e.symm), lt u hu.1⟩
    cases e : joined g v u with
    | false => rfl
    | true => exact absurd (.inr e) hu.2
  have r0 : Rc g (fun u => Av g D v u ∨ u = y) x 1 p := .step .zero hxp (.inl h1)
  obtain ⟨m, r1⟩ := r0.trans (r.mono (D' := fun u => Av g D v u ∨ u = y) fun u hu => .inl hu)
  have r2 : Rc g (fun u => Av g D v u ∨ u = y) x (m + 1) y := .step r1 (by rw [o.sym']; exact hyq) (.inr rfl)
  obtain ⟨k, h4, hk⟩ := ring_of o hD hx hy ne nj r2
  exact hk (no k h4)
include o in
theorem no_four (no : ∀ k, 4 ≤ k → rings g k = []) {a b c d : Nat} (hab : joined g a b = true) (hbc : joined g b c = true) (hcd : joined g c d = true) (hda : joined g d a = true) (nac : ¬ Nb g a c) (nbd : ¬ Nb g b d) : False := by
  have hD : ∀ u, u = c → joined g a u = false ∧ u ≠ a ∧ u < g.length := fun u hu => by
    subst hu
    refine ⟨?_, fun e => nac (.inl e.symm), (o.joined_lt hbc).2⟩
    cases e : joined g a u with
    | false => rfl
    | true => exact absurd (.inr e) nac
  have nj : joined g b d = false := by
    cases e : joined g b d with
    | false => rfl
    | true => exact absurd (.inr e) nbd
  have r : Rc g (fun u => u = c ∨ u = d) b 2 d := .step (.step .zero hbc (.inl rfl)) hcd (.inr rfl)
  obtain ⟨k, h4, hk⟩ := ring_of o hD hab (by rw [o.sym']; exact hda) (fun e => nbd (.inl e)) nj r
  exact hk (no k h4)
section
variable (no : ∀ k, 4 ≤ k → rings g k = []) (K : SOk g D S) {v : Nat} (hv : Um g D S v) (mx : ∀ u, Um g D S u → Psi g D S u ≤ Psi g D S v)
include o no K hv mx
/-- v's neighbours are joined with all of S -/
theorem nbr_um {x : Nat} (hx : D x) (j : joined g v x = true) : Um g D S x := by
  refine Classical.byContradiction fun nu => ?_
  have : ∃ s, S s ∧ ¬ Nb g s x := Classical.byContradiction fun z => nu ⟨hx, fun s hs => Classical.byContradiction fun q => z ⟨s, hs, q⟩⟩
  obtain ⟨s, hs, nsx⟩ := this
  have us : Um g D S s := ⟨K.sub s hs, fun t ht => K.clq t s ht hs⟩
  have nxs : ¬ Nb g x s := fun z => nsx (z.symm o)
  have sv : s ≠ v := fun e => nsx (.inr (e ▸ j))
  have jvs : joined g v s = true := ((hv.2 s hs).symm o).elim (fun e => absurd e.symm sv) id
  have xv : ¬ Av g D v x := fun z => z.2 (.inr j)
  -- a part with a node that isn't joined with all of S is not joined with s
  have far : ∀ y, Av g D v y → Non g D S v y → ∀ z, Con g D v y z → ¬ Nb g s z := by
    intro y hy hn z hz nz
    obtain ⟨w, hw, nw⟩ := hn
    have jsz : joined g s z = true := nz.elim (fun e => absurd (.inr (e ▸ jvs)) hz.right.2) id
    -- x is not joined with the part
    have xf : ∀ u, Con g D v y u → ¬ Nb g x u := fun u hu nb => by
      have jxu : joined g x u = true := nb.elim (fun e => absurd (.inr (e ▸ j)) hu.right.2) id
      exact nxs (part_clq o no K.lt j jvs jxu jsz ((hu.symm o).trans hz))
    have : ∃ t, S t ∧ ¬ Nb g t w := Classical.byContradiction fun q => nw ⟨hw.right.1, fun t ht => Classical.byContradiction fun q' => q ⟨t, ht, q'⟩⟩
    obtain ⟨t, ht, ntw⟩ := this
    have nwx : ¬ Nb g w x := fun q => xf w hw (q.symm o)
    have nwv : ¬ Nb g w v := fun q => hw.right.2 (q.symm o)
    have c1 : Con g D w x t := ((Con.refl (⟨hx, nwx⟩ : Av g D w x)).step (by rw [o.sym']; exact j) ⟨hv.1, nwv⟩).nb ((hv.2 t ht).symm o) ⟨K.sub t ht, fun q => ntw (q.symm o)⟩
    have c2 : Con g D x w s := (((hw.symm o).trans hz).move fun u hu => xf u (hw.trans hu)).step (by rw [o.sym']; exact jsz) ⟨K.sub s hs, nxs⟩
    exact K.good x w t s ht hs c1 c2
  have : Psi g D S v < Psi g D S s := by
    unfold Psi
    refine tot_beat o.le (fun y => Av g D v y ∧ ¬ Non g D S v y) (z := x) (E := 8) (K.lt x hx) (fun y _ ny => ?_) (fun y _ hy => ?_) (fun z => xv z.1) ?_
    · by_cases q : Av g D v y
      · have hn : Non g D S v y := Classical.byContradiction fun z => ny ⟨q, z⟩
        exact fz_mono q fun z hz => hz.move fun u hu => far y q hn u hu
      · rw [fz_out q]; exact Nat.zero_le _
    · unfold fz
      rw [if_pos hy.1]
      exact Nat.pow_le_pow_right (by decide) (ez_yes o.le hy.2)
    · have ax : Av g D s x := ⟨hx, nsx⟩
      rw [fz_out xv]
      unfold fz
      rw [if_pos ax]
      have h1 := ez_non (S := S) K.lt ax ⟨x, .refl ax, nu⟩
      have h2 : 10 ^ 11 ≤ 10 ^ ez g D S s x := Nat.pow_le_pow_right (by decide) h1
      have : (10 : Nat) ^ 11 = 100000000000 := by decide
      have : (10 : Nat) ^ 8 = 100000000 := by decide
      omega
  have := mx s us
  omega
/-- some part outside v's neighbours is at x, or x's neighbours are v's -/
theorem at_part {x y : Nat} (hx : D x) (hy : D y) (jx : joined g v x = true) (jy : joined g v y = true) (nxy : ¬ Nb g x y) : ∃ p, Av g D v p ∧ joined g x p = true := by
  refine Classical.byContradiction fun no' => ?_
  have ux := nbr_um o no K hv mx hx jx
  have far : ∀ z, Av g D v z → ¬ Nb g x z := fun z hz nb => by
    have : joined g x z = true := nb.elim (fun e => absurd (.inr (e ▸ jx)) hz.2) id
    exact no' ⟨z, hz, this⟩
  have yv : ¬ Av g D v y := fun z => z.2 (.inr jy)
  have : Psi g D S v < Psi g D S x := by
    unfold Psi
    refine tot_beat o.le (fun _ => False) (z := y) (E := 0) (K.lt y hy) (fun z _ _ => ?_) (fun _ _ h => h.elim) id ?_
    · by_cases q : Av g D v z
      · exact fz_mono q fun u hu => hu.move fun w hw => far w hw.right
      · rw [fz_out q]; exact Nat.zero_le _
    · have ay : Av g D x y := ⟨hy, nxy⟩
      rw [fz_out yv]
      unfold fz
      rw [if_pos ay]
      have h1 : 1 ≤ ez g D S x y := by
        unfold ez
        have := cz_pos K.lt ay
        omega
      have h2 : 10 ^ 1 ≤ 10 ^ ez g D S x y := Nat.pow_le_pow_right (by decide) h1
      omega
  have := mx x ux
  omega
theorem um_simp {x y : Nat} (hx : D x) (hy : D y) (jx : joined g v x = true) (jy : joined g v y = true) : Nb g x y := by
  refine Classical.byContradiction fun nxy => ?_
  have nyx : ¬ Nb g y x := fun z => nxy (z.symm o)
  obtain ⟨p, hp, jxp⟩ := at_part o no K hv mx hx hy jx jy nxy
  obtain ⟨q, hq, jyq⟩ := at_part o no K hv mx hy hx jy jx nyx
  have half : ∀ x y p q, D x → D y → joined g v x = true → joined g v y = true → ¬ Nb g x y → Av g D v p → joined g x p = true → Av g D v q → joined g y q = true → ez g D S v p ≤ ez g D S v q → False := by
    intro x y p q hx hy jx jy nxy hp jxp hq jyq he
    have nyx : ¬ Nb g y x := fun z => nxy (z.symm o)
    -- x is not at q's part, y not at p's
    have xq : ∀ u, Con g D v q u → ¬ Nb g x u := fun u hu nb => by
      have : joined g x u = true := nb.elim (fun e => absurd (.inr (e ▸ jx)) hu.right.2) id
      exact nxy (part_clq o no K.lt jx jy this jyq (hu.symm o))
    have yp : ∀ u, Con g D v p u → ¬ Nb g y u := fun u hu nb => by
      have : joined g y u = true := nb.elim (fun e => absurd (.inr (e ▸ jy)) hu.right.2) id
      exact nxy (part_clq o no K.lt jx jy jxp this hu)
    have npq : ∀ u w, Con g D v p u → Con g D v q w → ¬ Nb g u w := fun u w hu hw nb => by
      have : Con g D v p w := hu.nb nb hw.right
      exact xq p (hw.trans (this.symm o)) (.inr jxp)
    have nou : ∀ u, Con g D v p u → ¬ Um g D S u := fun u hu uu => by
      have c : Con g D u q v := ((Con.refl (⟨hq.1, npq u q hu (.refl hq)⟩ : Av g D u q)).step (by rw [o.sym']; exact jyq) ⟨hy, fun z => yp u hu (z.symm o)⟩).step (by rw [o.sym']; exact jy) ⟨hv.1, fun z => hu.right.2 (z.symm o)⟩
      have := beat (S := S) o K.lt hu.right hq (fun z => npq u q hu (.refl hq) (by
        exfalso
        exact npq q q (hu.trans z) (.refl hq) (.inl rfl))) c (by rw [← ez_same o hu]; exact he)
      have := mx u uu
      omega
    have np : ¬ Um g D S p := nou p (.refl hp)
    have e1 := ez_non (S := S) K.lt hp ⟨p, .refl hp, np⟩
    have nq : Non g D S v q := Classical.byContradiction fun z => by
      have := ez_yes o.le z
      omega
    obtain ⟨w, hw, nw⟩ := nq
    have mis : ∀ z, D z → ¬ Um g D S z → ∃ t, S t ∧ ¬ Nb g t z := fun z hz nz => Classical.byContradiction fun q => nz ⟨hz, fun t ht => Classical.byContradiction fun q' => q ⟨t, ht, q'⟩⟩
    obtain ⟨s, hs, nsp⟩ := mis p hp.1 np
    obtain ⟨t, ht, ntw⟩ := mis w hw.right.1 nw
    have c1 : Con g D w p t := (((Con.refl (⟨hp.1, fun z => npq p w (.refl hp) hw (z.symm o)⟩ : Av g D w p)).step (by rw [o.sym']; exact jxp) ⟨hx, fun z => xq w hw (z.symm o)⟩).step (by rw [o.sym']; exact jx) ⟨hv.1, fun z => hw.right.2 (z.symm o)⟩).nb ((hv.2 t ht).symm o) ⟨K.sub t ht, fun z => ntw (z.symm o)⟩
    have c2 : Con g D p w s := ((((hw.symm o).move fun u hu => npq p u (.refl hp) (hw.trans hu)).step (by rw [o.sym']; exact jyq) ⟨hy, fun z => yp p (.refl hp) (z.symm o)⟩).step (by rw [o.sym']; exact jy) ⟨hv.1, fun z => hp.2 (z.symm o)⟩).nb ((hv.2 s hs).symm o) ⟨K.sub s hs, fun z => nsp (z.symm o)⟩
    exact K.good p w t s ht hs c1 c2
  rcases Nat.le_total (ez g D S v p) (ez g D S v q) with e | e
  · exact half x y p q hx hy jx jy nxy hp jxp hq jyq e
  · exact half y x q p hy hx jy jx nyx hq jyq hp jxp e
theorem um_good {a b : Nat} (h1 : Con g D b a v) (h2 : Con g D a b v) : False := by
  have half : ∀ a b, Con g D b a v → Con g D a b v → Um g D S a → False := by
    intro a b h1 h2 ua
    have ha : Av g D v a := ⟨h1.left.1, fun z => h2.right.2 (z.symm o)⟩
    have hb : Av g D v b := ⟨h2.left.1, fun z => h1.right.2 (z.symm o)⟩
    have nab : ¬ Con g D v a b := fun z => K.at_ a b v z h2 (h1)
    have nba : ¬ Con g D v b a := fun z => nab (z.symm o)
    by_cases he : ez g D S v a ≤ ez g D S v b
    · have := beat (S := S) o K.lt ha hb nab h2 he
      have := mx a ua
      omega
    · by_cases ub : Um g D S b
      · have := beat (S := S) o K.lt hb ha nba h1 (by omega)
        have := mx b ub
        omega
      · have e1 := ez_non (S := S) K.lt hb ⟨b, .refl hb, ub⟩
        have na : Non g D S v a := Classical.byContradiction fun z => by
          have := ez_yes o.le z
          omega
        obtain ⟨y, hy, ny⟩ := na
        have mis : ∀ z, D z → ¬ Um g D S z → ∃ t, S t ∧ ¬ Nb g t z := fun z hz nz => Classical.byContradiction fun q => nz ⟨hz, fun t ht => Classical.byContradiction fun q' => q ⟨t, ht, q'⟩⟩
        obtain ⟨s', hs', nsb⟩ := mis b hb.1 ub
        obtain ⟨s1, hs1, nsy⟩ := mis y hy.right.1 ny
        have npq : ∀ u w, Con g D v a u → Con g D v b w → ¬ Nb g u w := fun u w hu hw nb => by
          have : Con g D v a w := hu.nb nb hw.right
          exact nab (this.trans (hw.symm o))
        obtain ⟨q, t, hq, jqt, jvt, at_⟩ := h2.exit o hb
        obtain ⟨q2, t2, hq2, jqt2, jvt2, bt2⟩ := h1.exit o ha
        have c1 : Con g D b y s' := (((((hy.symm o).trans hq2).move fun u hu z => npq u b (hy.trans hu) (.refl hb) (z.symm o)).step jqt2 bt2).step (by rw [o.sym']; exact jvt2) h1.right).nb ((hv.2 s' hs').symm o) ⟨K.sub s' hs', fun z => nsb (z.symm o)⟩
        have nyt : Nb g y t := Classical.byContradiction fun nyt => by
          have c2 : Con g D y b s1 := (((hq.move fun u hu z => npq y u hy hu z).step jqt ⟨at_.1, nyt⟩).step (by rw [o.sym']; exact jvt) ⟨hv.1, fun z => hy.right.2 (z.symm o)⟩).nb ((hv.2 s1 hs1).symm o) ⟨K.sub s1 hs1, fun z => nsy (z.symm o)⟩
          exact K.good y b s' s1 hs' hs1 c1 c2
        have jyt : joined g y t = true := nyt.elim (fun e => absurd (.inr (e ▸ jvt)) hy.right.2) id
        have s1v : s1 ≠ v := fun e => ha.2 (e ▸ ua.2 s1 hs1)
        have jvs : joined g v s1 = true := ((hv.2 s1 hs1).symm o).elim (fun e => absurd e.symm s1v) id
        have jsa : joined g s1 a = true := (ua.2 s1 hs1).elim (fun e => absurd (.inr (e ▸ jvs)) ha.2) id
        have nat : ¬ Nb g a t := at_.2
        have ts : Nb g t s1 := um_simp o no K hv mx at_.1 (K.sub s1 hs1) jvt jvs
        have jts : joined g t s1 = true := ts.elim (fun e => absurd (.inr (by rw [e, o.sym']; exact jsa)) nat) id
        by_cases ay : Nb g a y
        · have jay : joined g a y = true := ay.elim (fun e => absurd (e ▸ ua) ny) id
          exact no_four o no jay jyt jts jsa nat (fun z => nsy (z.symm o))
        · have nya : ¬ Nb g y a := fun z => ay (z.symm o)
          have d1 : Con g D y v a := ((Con.refl (⟨hv.1, fun z => hy.right.2 (z.symm o)⟩ : Av g D y v)).step jvs ⟨K.sub s1 hs1, fun z => nsy (z.symm o)⟩).step jsa ⟨ha.1, nya⟩
          have d2 : Con g D a v y := ((Con.refl (⟨hv.1, fun z => ha.2 (z.symm o)⟩ : Av g D a v)).step jvt at_).step (by rw [o.sym']; exact jyt) ⟨hy.right.1, ay⟩
          exact K.at_ v a y d1 hy d2
  by_cases ua : Um g D S a
  · exact half a b h1 h2 ua
  · by_cases ub : Um g D S b
    · exact half b a h2 h1 ub
    · have mis : ∀ z, D z → ¬ Um g D S z → ∃ t, S t ∧ ¬ Nb g t z := fun z hz nz => Classical.byContradiction fun q => nz ⟨hz, fun t ht => Classical.byContradiction fun q' => q ⟨t, ht, q'⟩⟩
      obtain ⟨s, hs, nsb⟩ := mis b h2.left.1 ub
      obtain ⟨t, ht, nta⟩ := mis a h1.left.1 ua
      exact K.good a b s t hs ht (h1.nb ((hv.2 s hs).symm o) ⟨K.sub s hs, fun z => nsb (z.symm o)⟩) (h2.nb ((hv.2 t ht).symm o) ⟨K.sub t ht, fun z => nta (z.symm o)⟩)
end
end
end Gm

end
section
/-! intervals: the greatest cliques lined up -/
namespace Gm
open Gg
open Classical
structure MaxCl (g : Graph) (D : Nat → Prop) (s : Nat) : Prop where
  sub : ∀ u, s.testBit u = true → D u
  ne : ∃ u, s.testBit u = true
  clq : ∀ a b, s.testBit a = true → s.testBit b = true → Nb g a b
  mx : ∀ u, D u → (∀ a, s.testBit a = true → Nb g a u) → s.testBit u = true
/-- each clique's nodes are in the one before, or in none before -/
inductive Csc : List Nat → Prop
  | nil : Csc []
  | snoc {l : List Nat} {c : Nat} : Csc l → (∀ v, c.testBit v = true → (∃ b, l.getLast? = some b ∧ b.testBit v = true) ∨ ∀ s ∈ l, s.testBit v = false) → Csc (l ++ [c])
theorem Csc.inv {l : List Nat} {c : Nat} (h : Csc (l ++ [c])) : Csc l ∧ ∀ v, c.testBit v = true → (∃ b, l.getLast? = some b ∧ b.testBit v = true) ∨ ∀ s ∈ l, s.testBit v = false := by
  generalize e : l ++ [c] = x at h
  cases h with
  | nil => simp at e
  | @snoc l' c' h1 h2 =>
    have := List.append_inj' e rfl
    obtain ⟨e1, e2⟩ := this
    subst e1
    have e3 : c = c' := by simpa using e2
    subst e3
    exact ⟨h1, h2⟩
noncomputable def bs (g : Graph) (P : Nat → Prop) : Nat := setOf ((nodes g).filter fun u => decide (P u))
theorem bs_bit {g : Graph} {P : Nat → Prop} (lt : ∀ u, P u → u < g.length) (u : Nat) : (bs g P).testBit u = true ↔ P u := by
  unfold bs nodes
  rw [setOf_bit]
  constructor
  · intro h
    have := (List.mem_filter.mp (by simpa using h : u ∈ (List.range g.length).filter fun u => decide (P u))).2
    simpa using this
  · intro h
    have : u ∈ (List.range g.length).filter fun u => decide (P u) := List.mem_filter.mpr ⟨List.mem_range.mpr (lt u h), by simpa using h⟩
    simpa using this
theorem no_bit {s u : Nat} (h : ¬ s.testBit u = true) : s.testBit u = false := by simpa using h
theorem no_joined {g : Graph} {u v : Nat} (h : ¬ joined g u v = true) : joined g u v = false := by simpa using h
theorem lineup {g : Graph} (o : Ok g) (no : ∀ k, 4 ≤ k → rings g k = []) : ∀ (m : Nat) (D S : Nat → Prop), cnt (fun u => decide (D u)) g.length ≤ m → SOk g D S →
    ∃ L : List Nat, L.Nodup ∧ (∀ s, s ∈ L ↔ MaxCl g D s) ∧ Csc L ∧ ∀ c, L.getLast? = some c → ∀ s, S s → c.testBit s = true := by
  intro m
  induction m with
  | zero =>
    intro D S hc K
    have none : ∀ u, ¬ D u := fun u hu => by
      have := cnt_lt (p := fun _ => false) (q := fun y => decide (D y)) (y := u) g.length (fun _ _ h => by cases h) (K.lt u hu) rfl (by simpa using hu)
      omega
    refine ⟨[], List.nodup_nil, fun s => ⟨fun h => (by cases h), fun h => ?_⟩, .nil, fun c h => (by cases h)⟩
    obtain ⟨u, hu⟩ := h.ne
    exact absurd (h.sub u hu) (none u)
  | succ m ih =>
    intro D S hc K
    by_cases em : ∃ u, D u
    case neg =>
      refine ⟨[], List.nodup_nil, fun s => ⟨fun h => (by cases h), fun h => ?_⟩, .nil, fun c h => (by cases h)⟩
      obtain ⟨u, hu⟩ := h.ne
      exact absurd ⟨u, h.sub u hu⟩ em
    obtain ⟨u0, hu0⟩ := em
    have ex : ∃ u, Um g D S u := by
      by_cases q : ∃ s, S s
      · obtain ⟨s, hs⟩ := q
        exact ⟨s, K.sub s hs, fun t ht => K.clq t s ht hs⟩
      · exact ⟨u0, hu0, fun s hs => absurd ⟨s, hs⟩ q⟩
    obtain ⟨u1, hu1⟩ := ex
    obtain ⟨v, hv, mx⟩ := greatest (P := Um g D S) (f := Psi g D S) (B := tot (fun _ => 10 ^ 18) g.length) (fun a _ => tot_le _ fun x _ => by
      unfold fz
      split
      · refine Nat.pow_le_pow_right (by decide) ?_
        unfold ez
        have := cz_le (g := g) (D := D) a x
        have := o.le
        split <;> omega
      · exact Nat.zero_le _) hu1
    have simp_ : ∀ x y, D x → D y → joined g v x = true → joined g v y = true → Nb g x y := fun x y hx hy jx jy => um_simp o no K hv mx hx hy jx jy
    -- without v
    have K' : SOk g (fun u => D u ∧ u ≠ v) (fun u => D u ∧ joined g v u = true) := by
      have mono : ∀ u, (D u ∧ u ≠ v) → D u := fun u h => h.1
      refine ⟨fun u hu => K.lt u hu.1, fun a b c h1 h2 h3 => K.at_ a b c (h1.mono mono) (h2.mono mono) (h3.mono mono), fun s hs => ⟨hs.1, fun e => ?_⟩, fun s t hs ht => simp_ s t hs.1 ht.1 hs.2 ht.2, fun a b s t hs ht h1 h2 => ?_⟩
      · have := hs.2
        rw [e, o.self'] at this
        cases this
      · have nbv : ¬ Nb g b v := fun z => by
          rcases z with z | z
          · exact h2.left.1.2 z
          · have jb : joined g v b = true := by rw [o.sym']; exact z
            exact h1.right.2 (simp_ b s h2.left.1.1 hs.1 jb hs.2)
        have nav : ¬ Nb g a v := fun z => by
          rcases z with z | z
          · exact h1.left.1.2 z
          · have ja : joined g v a = true := by rw [o.sym']; exact z
            exact h2.right.2 (simp_ a t h1.left.1.1 ht.1 ja ht.2)
        exact um_good o no K hv mx ((h1.mono mono).step (by rw [o.sym']; exact hs.2) ⟨hv.1, nbv⟩) ((h2.mono mono).step (by rw [o.sym']; exact ht.2) ⟨hv.1, nav⟩)
    have hlt : ∀ D' : Nat → Prop, (∀ u, D' u → D u) → ¬ D' v → cnt (fun u => decide (D' u)) g.length < cnt (fun u => decide (D u)) g.length := fun D' s nv => cnt_lt (y := v) g.length (fun i _ h => by
      rw [decide_eq_true_eq] at h ⊢
      exact s i h) (K.lt v hv.1) (by simpa using nv) (by simpa using hv.1)
    have hlt := hlt (fun u => D u ∧ u ≠ v) (fun u h => h.1) (fun h => h.2 rfl)
    obtain ⟨L, nd, mem, csc, last⟩ := ih (fun u => D u ∧ u ≠ v) (fun u => D u ∧ joined g v u = true) (by omega) K'
    -- v's clique
    obtain ⟨C, hC⟩ : ∃ C : Nat, ∀ u, C.testBit u = true ↔ D u ∧ Nb g v u := ⟨bs g fun u => D u ∧ Nb g v u, bs_bit fun u hu => K.lt u hu.1⟩
    obtain ⟨N, hN⟩ : ∃ N : Nat, ∀ u, N.testBit u = true ↔ D u ∧ joined g v u = true := ⟨bs g fun u => D u ∧ joined g v u = true, bs_bit fun u hu => K.lt u hu.1⟩
    have vC : C.testBit v = true := (hC v).mpr ⟨hv.1, .inl rfl⟩
    have mC : MaxCl g D C := by
      refine ⟨fun u hu => ((hC u).mp hu).1, ⟨v, vC⟩, fun a b ha hb => ?_, fun u hu h => (hC u).mpr ⟨hu, h v vC⟩⟩
      obtain ⟨da, na⟩ := (hC a).mp ha
      obtain ⟨db, nb⟩ := (hC b).mp hb
      rcases na with e | ja
      · exact e ▸ nb
      · rcases nb with e | jb
        · exact e ▸ (.inr (by rw [o.sym']; exact ja))
        · exact simp_ a b da db ja jb
    have withv : ∀ s, MaxCl g D s → s.testBit v = true → s = C := fun s hs h => bits_eq fun u => by
      by_cases q : C.testBit u = true
      · rw [q]
        refine hs.mx u ((hC u).mp q).1 fun a ha => mC.clq a u ?_ q
        exact (hC a).mpr ⟨hs.sub a ha, hs.clq v a h ha⟩
      · rw [no_bit q]
        refine no_bit fun z => q ?_
        exact (hC u).mpr ⟨hs.sub u z, hs.clq v u h z⟩
    have nov : ∀ s ∈ L, s.testBit v = false := fun s hs => no_bit fun z => (((mem s).mp hs).sub v z).2 rfl
    have CL : C ∉ L := fun z => by
      have := nov C z
      rw [vC] at this
      cases this
    -- greatest cliques without v that aren't N
    have up : ∀ s, MaxCl g (fun u => D u ∧ u ≠ v) s → s ≠ N → MaxCl g D s := fun s hs ne => by
      refine ⟨fun u hu => (hs.sub u hu).1, hs.ne, hs.clq, fun u hu h => ?_⟩
      by_cases e : u = v
      · exfalso
        subst e
        have sN : ∀ a, s.testBit a = true → N.testBit a = true := fun a ha => by
          refine (hN a).mpr ⟨(hs.sub a ha).1, ?_⟩
          rcases h a ha with z | z
          · exact absurd z (hs.sub a ha).2
          · rw [o.sym']; exact z
        refine ne (bits_eq fun w => ?_)
        by_cases q : N.testBit w = true
        · rw [q]
          obtain ⟨dw, jw⟩ := (hN w).mp q
          refine hs.mx w ⟨dw, fun z => ?_⟩ fun a ha => ?_
          · rw [z, o.self'] at jw; cases jw
          · obtain ⟨da, ja⟩ := (hN a).mp (sN a ha)
            exact simp_ a w da dw ja jw
        · rw [no_bit q]
          exact no_bit fun z => q (sN w z)
      · exact hs.mx u ⟨hu, e⟩ h
    have down : ∀ s, MaxCl g D s → s ≠ C → MaxCl g (fun u => D u ∧ u ≠ v) s := fun s hs ne => by
      refine ⟨fun u hu => ⟨hs.sub u hu, fun e => ne (withv s hs (e ▸ hu))⟩, hs.ne, hs.clq, fun u hu h => hs.mx u hu.1 h⟩
    have notN : ∀ s, MaxCl g D s → s ≠ N := fun s hs e => by
      have : s.testBit v = true := hs.mx v hv.1 fun a ha => by
        rw [e] at ha
        exact .inr (by rw [o.sym']; exact ((hN a).mp ha).2)
      rw [e] at this
      have := ((hN v).mp this).2
      rw [o.self'] at this
      cases this
    have SC : ∀ s, S s → C.testBit s = true := fun s hs => (hC s).mpr ⟨K.sub s hs, (hv.2 s hs).symm o⟩
    by_cases mN : MaxCl g (fun u => D u ∧ u ≠ v) N
    · have hNL : N ∈ L := (mem N).mpr mN
      have hne : L ≠ [] := List.ne_nil_of_mem hNL
      have hd := List.dropLast_concat_getLast hne
      have eN : L.getLast hne = N := by
        have h1 := (mem _).mp (List.getLast_mem hne)
        have h2 := last _ (List.getLast?_eq_some_getLast hne)
        refine bits_eq fun u => ?_
        by_cases q : N.testBit u = true
        · rw [q]; exact h2 u ((hN u).mp q)
        · rw [no_bit q]
          refine no_bit fun z => q ?_
          exact mN.mx u (h1.sub u z) fun a ha => h1.clq a u (h2 a ((hN a).mp ha)) z
      rw [eN] at hd
      rw [← hd] at nd csc mem nov CL
      obtain ⟨c1, c2⟩ := csc.inv
      have nd' := List.nodup_append.mp nd
      have nN : N ∉ L.dropLast := fun z => nd'.2.2 N z N (by simp) rfl
      refine ⟨L.dropLast ++ [C], ?_, fun s => ?_, .snoc c1 fun u hu => ?_, fun c hc s hs => ?_⟩
      · rw [List.nodup_append]
        refine ⟨nd'.1, by simp, fun x hx y hy e => ?_⟩
        rw [List.mem_singleton.mp hy] at e
        exact CL (List.mem_append_left _ (e ▸ hx))
      · rw [List.mem_append, List.mem_singleton]
        constructor
        · rintro (h | h)
          · exact up s ((mem s).mp (List.mem_append_left _ h)) fun e => nN (e ▸ h)
          · rw [h]; exact mC
        · intro h
          by_cases e : s = C
          · exact .inr e
          · left
            have := (mem s).mpr (down s h e)
            rcases List.mem_append.mp this with z | z
            · exact z
            · exact absurd (List.mem_singleton.mp z) (notN s h)
      · obtain ⟨du, nu⟩ := (hC u).mp hu
        rcases nu with e | j
        · exact .inr fun s hs => e ▸ nov s (List.mem_append_left _ hs)
        · exact c2 u ((hN u).mpr ⟨du, j⟩)
      · have : C = c := by simpa using hc
        rw [← this]
        exact SC s hs
    · refine ⟨L ++ [C], ?_, fun s => ?_, .snoc csc fun u hu => ?_, fun c hc s hs => ?_⟩
      · rw [List.nodup_append]
        refine ⟨nd, by simp, fun x hx y hy e => ?_⟩
        rw [List.mem_singleton.mp hy] at e
        exact CL (e ▸ hx)
      · rw [List.mem_append, List.mem_singleton]
        constructor
        · rintro (h | h)
          · exact up s ((mem s).mp h) fun e => mN (e ▸ (mem s).mp h)
          · rw [h]; exact mC
        · intro h
          by_cases e : s = C
          · exact .inr e
          · exact .inl ((mem s).mpr (down s h e))
      · obtain ⟨du, nu⟩ := (hC u).mp hu
        rcases nu with e | j
        · exact .inr fun s hs => e ▸ nov s hs
        · cases e : L.getLast? with
          | none =>
            have : L = [] := List.getLast?_eq_none_iff.mp e
            subst this
            exact .inr fun s hs => by cases hs
          | some b => exact .inl ⟨b, rfl, last b e u ⟨du, j⟩⟩
      · have : C = c := by simpa using hc
        rw [← this]
        exact SC s hs
/-! ### the specification's own lining up -/
theorem sbs_of (v : Nat) : ∀ {l : List Nat}, Csc l → ∃ A B E, l = A ++ B ++ E ∧ (∀ s ∈ A, s.testBit v = false) ∧ (∀ s ∈ B, s.testBit v = true) ∧ ∀ s ∈ E, s.testBit v = false := by
  intro l h
  induction h with
  | nil => exact ⟨[], [], [], rfl, fun _ h => (by cases h), fun _ h => (by cases h), fun _ h => (by cases h)⟩
  | @snoc l c h1 h2 ih =>
    obtain ⟨A, B, E, e, hA, hB, hE⟩ := ih
    by_cases q : c.testBit v = true
    · rcases h2 v q with ⟨b, hb, hbv⟩ | hn
      · have hE0 : E = [] := by
          cases E with
          | nil => rfl
          | cons x t =>
            exfalso
            have : b ∈ x :: t := by
              rw [e, List.getLast?_append, List.getLast?_eq_some_getLast (List.cons_ne_nil x t)] at hb
              have := Option.some.inj hb
              rw [← this]
              exact List.getLast_mem _
            rw [hE b this] at hbv
            cases hbv
        subst hE0
        refine ⟨A, B ++ [c], [], by rw [e]; simp, hA, fun s hs => ?_, fun _ h => by cases h⟩
        rcases List.mem_append.mp hs with z | z
        · exact hB s z
        · rw [List.mem_singleton.mp z]; exact q
      · exact ⟨l, [c], [], by simp, hn, fun s hs => by rw [List.mem_singleton.mp hs]; exact q, fun _ h => by cases h⟩
    · refine ⟨A, B, E ++ [c], by rw [e]; simp, hA, hB, fun s hs => ?_⟩
      rcases List.mem_append.mp hs with z | z
      · exact hE s z
      · rw [List.mem_singleton.mp z]; exact no_bit q
theorem dropAll {p : Nat → Bool} : ∀ {A X : List Nat}, (∀ s ∈ A, p s = true) → (A ++ X).dropWhile p = X.dropWhile p
  | [], _, _ => rfl
  | a :: A, X, h => by
    rw [List.cons_append, List.dropWhile_cons, if_pos (h a List.mem_cons_self)]
    exact dropAll fun s hs => h s (List.mem_cons_of_mem _ hs)
theorem dropNone {p : Nat → Bool} : ∀ {A : List Nat}, (∀ s ∈ A, p s = false) → A.dropWhile p = A
  | [], _ => rfl
  | a :: A, h => by
    rw [List.dropWhile_cons, if_neg (by rw [h a List.mem_cons_self]; simp)]
theorem sideBySide_of {g : Graph} {l : List Nat} (h : Csc l) : sideBySide g l = true := by
  unfold sideBySide
  rw [List.all_eq_true]
  intro v _
  obtain ⟨A, B, E, e, hA, hB, hE⟩ := sbs_of v h
  dsimp only
  unfold isIn
  rw [e, List.append_assoc, dropAll (p := fun (s : Nat) => !s.testBit v) (fun s hs => by rw [hA s hs]; rfl)]
  cases B with
  | nil =>
    have : ([] ++ E).dropWhile (fun (s : Nat) => !s.testBit v) = [] := by
      have := dropAll (p := fun (s : Nat) => !s.testBit v) (A := E) (X := []) (fun s hs => by rw [hE s hs]; rfl)
      simpa using this
    rw [this]; rfl
  | cons b B =>
    have e1 : (b :: B ++ E).dropWhile (fun (s : Nat) => !s.testBit v) = b :: B ++ E := by
      rw [List.cons_append, List.dropWhile_cons, if_neg (by rw [hB b List.mem_cons_self]; simp)]
    rw [e1, dropAll (p := fun (s : Nat) => s.testBit v) hB, dropNone hE, List.all_eq_true]
    intro s hs
    rw [hE s hs]; rfl
theorem Csc.pre : ∀ {r l : List Nat}, Csc (l ++ r) → Csc l := by
  intro r
  induction r with
  | nil => intro l h; simpa using h
  | cons x r ih =>
    intro l h
    have : Csc ((l ++ [x]) ++ r) := by simpa using h
    exact (ih this).inv.1
theorem lineUp_some {g : Graph} {all : List Nat} : ∀ (r l : List Nat) (f : Nat), Csc (l ++ r) → (l ++ r).Nodup → (∀ s ∈ l ++ r, s ∈ all) → (l ++ r).length = all.length → r.length < f → (lineUp g all f l).isSome = true
  | _, _, 0, _, _, _, _, h => by omega
  | [], l, f + 1, _, _, _, e, _ => by
    unfold lineUp
    rw [if_pos (by simpa using e)]; rfl
  | s :: r, l, f + 1, c, nd, sub, e, h => by
    unfold lineUp
    have hl : l.length ≠ all.length := by
      rw [List.length_append] at e
      simp at e
      omega
    rw [if_neg hl, List.findSome?_isSome_iff]
    have ea : l ++ s :: r = (l ++ [s]) ++ r := by simp
    refine ⟨s, sub s (by simp), ?_⟩
    have h1 : l.contains s = false := by
      have := (List.nodup_append.mp nd).2.2
      cases q : l.contains s with
      | false => rfl
      | true => exact absurd rfl (this s (by simpa using q) s (by simp))
    have h2 : sideBySide g (l ++ [s]) = true := by
      rw [ea] at c
      exact sideBySide_of c.pre
    rw [h1, h2]
    exact lineUp_some r (l ++ [s]) f (ea ▸ c) (ea ▸ nd) (ea ▸ sub) (ea ▸ e) (by simp at h; omega)
theorem mem_cliques {g : Graph} (_o : Ok g) {s : Nat} : s ∈ cliques g ↔ MaxCl g (fun u => u < g.length) s := by
  unfold cliques
  rw [List.mem_filter, mem_sets, Bool.and_eq_true]
  unfold isClique
  simp only [Bool.and_eq_true, List.all_eq_true, Bool.or_eq_true, bne_iff_ne, beq_iff_eq, Bool.not_eq_true', List.all_eq_false, nodes, List.mem_range, isIn]
  constructor
  · rintro ⟨h1, ⟨h2, h3⟩, h4⟩
    refine ⟨fun u hu => bit_lt h1 hu, ?_, fun a b ha hb => ?_, fun u hu h => ?_⟩
    · refine Classical.byContradiction fun z => h2 ?_
      refine (zero_iff h1).mpr fun v _ => no_bit fun q => z ⟨v, q⟩
    · exact h3 a (mem_members.mpr ⟨bit_lt h1 ha, ha⟩) b (mem_members.mpr ⟨bit_lt h1 hb, hb⟩)
    · rcases h4 u hu with q | ⟨w, hw, q⟩
      · exact q
      · rcases h w (mem_members.mp hw).2 with z | z
        · rw [← z]; exact (mem_members.mp hw).2
        · exact absurd z q
  · intro h
    have h1 : s < 2 ^ g.length := by
      have e : s = setOf ((List.range g.length).filter fun v => s.testBit v) := bits_eq fun v => by
        rw [setOf_bit]
        by_cases q : s.testBit v = true
        · rw [q]
          have : v ∈ (List.range g.length).filter fun v => s.testBit v := List.mem_filter.mpr ⟨List.mem_range.mpr (h.sub v q), q⟩
          simpa using this
        · rw [no_bit q]
          cases z : ((List.range g.length).filter fun v => s.testBit v).contains v with
          | false => rfl
          | true =>
            have := (List.mem_filter.mp (by simpa using z : v ∈ (List.range g.length).filter fun v => s.testBit v)).2
            exact absurd this q
      rw [e]
      exact setOf_lt fun u hu => List.mem_range.mp (List.mem_filter.mp hu).1
    refine ⟨h1, ⟨fun e => ?_, fun a ha b hb => h.clq a b (mem_members.mp ha).2 (mem_members.mp hb).2⟩, fun u hu => ?_⟩
    · obtain ⟨u, hu⟩ := h.ne
      rw [e, Nat.zero_testBit] at hu
      cases hu
    · by_cases q : s.testBit u = true
      · exact .inl q
      · right
        refine Classical.byContradiction fun z => q ?_
        refine h.mx u hu fun a ha => .inr ?_
        refine Classical.byContradiction fun w => z ⟨a, mem_members.mpr ⟨h.sub a ha, ha⟩, w⟩
theorem cliques_nodup (g : Graph) : (cliques g).Nodup := by
  unfold cliques sets
  exact List.nodup_range.filter _
theorem past_iff {g : Graph} (o : Ok g) {x a b : Nat} (ha : a < g.length) : past g x a b = true ↔ Con g (fun u => u < g.length) x a b := by
  unfold past
  rw [comesA_iff ha]
  have e : ∀ v, (v != x && !joined g v x) = true ↔ ¬ Nb g x v := fun v => by
    rw [Bool.and_eq_true, bne_iff_ne, Bool.not_eq_true', o.sym' v x]
    unfold Nb
    constructor
    · rintro ⟨h1, h2⟩ (z | z)
      · exact h1 z.symm
      · rw [h2] at z; cases z
    · intro h
      exact ⟨fun z => h (.inl z.symm), no_joined fun z => h (.inr z)⟩
  have eD : Am g (fun v => v != x && !joined g v x) = Av g (fun u => u < g.length) x := by
    funext u
    show (u < g.length ∧ (u != x && !joined g u x) = true) = _
    rw [e]
  rw [eD, e]
  exact ⟨fun h => ⟨⟨ha, h.1⟩, h.2⟩, fun h => ⟨h.1.2, h.2⟩⟩
theorem mem_rowsOf3 {g : Graph} {a b c : Nat} (ha : a < g.length) (hb : b < g.length) (hc : c < g.length) (n1 : a ≠ b) (n2 : a ≠ c) (n3 : b ≠ c) : [a, b, c] ∈ rowsOf g 3 := by
  have step : ∀ (k : Nat) (r : Row) (v : Nat), r ∈ rowsOf g k → v < g.length → v ∉ r → r ++ [v] ∈ rowsOf g (k + 1) := by
    intro k r v hr hv hn
    unfold rowsOf
    refine List.mem_flatMap.mpr ⟨r, hr, List.mem_map.mpr ⟨v, List.mem_filter.mpr ⟨List.mem_range.mpr hv, ?_⟩, rfl⟩⟩
    simpa using hn
  have h0 : [] ∈ rowsOf g 0 := by simp [rowsOf]
  have h1 := step 0 [] a h0 ha (by simp)
  have h2 := step 1 [a] b h1 hb (by simp; omega)
  exact step 2 [a, b] c h2 hc (by simp; omega)
theorem atfree_of {g : Graph} (o : Ok g) (h : reaching g = none) : ATfree g fun u => u < g.length := by
  intro a b c h1 h2 h3
  have ha := h1.left.1
  have hb := h2.left.1
  have hc := h2.right.1
  have nab : ¬ Nb g a b := h2.left.2
  have nac : ¬ Nb g a c := h2.right.2
  have nbc : ¬ Nb g b c := h3.right.2
  have := List.find?_eq_none.mp h _ (mem_rowsOf3 ha hb hc (fun e => nab (.inl e)) (fun e => nac (.inl e)) (fun e => nbc (.inl e)))
  refine this ?_
  unfold isReaching
  show (!joined g a b && (!joined g a c && (!joined g b c && (past g c a b && (past g a b c && past g b a c))))) = true
  rw [no_joined fun z => nab (.inr z), no_joined fun z => nac (.inr z), no_joined fun z => nbc (.inr z), (past_iff o ha).mpr h1, (past_iff o hb).mpr h2, (past_iff o ha).mpr h3]
  rfl
theorem lined_some {g : Graph} (o : Ok g) (h1 : chordlessRing g = none) (h2 : reaching g = none) : (lined g).isSome = true := by
  rw [chordlessRing_eq o] at h1
  have no := no_rings h1
  have K : SOk g (fun u => u < g.length) (fun _ => False) := ⟨fun _ h => h, atfree_of o h2, fun _ h => h.elim, fun _ _ h => h.elim, fun _ _ _ _ h => h.elim⟩
  obtain ⟨L, nd, mem, csc, _⟩ := lineup o no _ _ _ (Nat.le_refl _) K
  have mem' : ∀ s, s ∈ L ↔ s ∈ cliques g := fun s => (mem s).trans (mem_cliques o).symm
  have len : L.length = (cliques g).length := ((List.perm_ext_iff_of_nodup nd (cliques_nodup g)).mpr mem').length_eq
  unfold lined
  exact lineUp_some L [] _ (by simpa using csc) (by simpa using nd) (fun s hs => (mem' s).mp (by simpa using hs)) (by simpa using len) (by omega)
end Gm

end
section
/-! steps: a node that is joined with all others or with none, and orders from the end -/
namespace Gm
open Gg
structure NoSteps (g : Graph) : Prop where
  four : ∀ a b c d, a < g.length → b < g.length → c < g.length → d < g.length → [a, b, c, d].Nodup → (isRing4 g [a, b, c, d] || (isPath4 g [a, b, c, d] || isPairs4 g [a, b, c, d])) = false
theorem noSteps_of {g : Graph} (h : notSteps g = none) : NoSteps g := ⟨fun a b c d ha hb hc hd nd => by
  unfold notSteps at h
  have := List.find?_eq_none.mp h _ (mem_rowsOf4 ha hb hc hd nd)
  simpa using this⟩
theorem even_iff {g : Graph} {l : Row} {v : Nat} : even g l v = true ↔ (∀ u ∈ l, joined g u v = true) ∨ ∀ u ∈ l, joined g u v = false := by
  unfold even
  rw [Bool.or_eq_true, List.all_eq_true, List.all_eq_true]
  simp
theorem even_sub {g : Graph} {l m : Row} {v : Nat} (h : even g l v = true) (s : ∀ u ∈ m, u ∈ l) : even g m v = true := by
  rw [even_iff] at h ⊢
  rcases h with h | h
  · exact .inl fun u hu => h u (s u hu)
  · exact .inr fun u hu => h u (s u hu)
/-- neighbours are nested -/
theorem nested {g : Graph} (o : Ok g) (N : NoSteps g) {u v a b : Nat} (huv : u ≠ v) (hua : joined g u a = true) (hva : joined g v a = false) (av : a ≠ v) (hvb : joined g v b = true) (hub : joined g u b = false) (bu : b ≠ u) : False := by
  have ne : ∀ {a b}, joined g a b = true → a ≠ b := fun {a b} h e => by rw [e, o.self'] at h; cases h
  have ab : a ≠ b := fun e => by rw [e, hub] at hua; cases hua
  have lu := (o.joined_lt hua).1
  have la := (o.joined_lt hua).2
  have lv := (o.joined_lt hvb).1
  have lb := (o.joined_lt hvb).2
  have nd : ∀ {a b c d : Nat}, a ≠ b → a ≠ c → a ≠ d → b ≠ c → b ≠ d → c ≠ d → [a, b, c, d].Nodup := fun h1 h2 h3 h4 h5 h6 => by
    simp only [List.nodup_cons, List.mem_cons, List.not_mem_nil, or_false, not_or, List.nodup_nil, not_false_eq_true, and_true]
    exact ⟨⟨h1, h2, h3⟩, ⟨h4, h5⟩, h6⟩
  have hau := (o.sym' a u).trans hua
  have hav := (o.sym' a v).trans hva
  have hbu := (o.sym' b u).trans hub
  have hbv := (o.sym' b v).trans hvb
  cases e1 : joined g u v with
  | false =>
    cases e2 : joined g a b with
    | false =>
      have := N.four u a v b lu la lv lb (nd (ne hua) huv (Ne.symm bu) av ab (ne hvb))
      simp [isRing4, isPath4, isPairs4, four, node, hua, e1, hub, hav, e2, hvb] at this
    | true =>
      have := N.four u a b v lu la lb lv (nd (ne hua) (Ne.symm bu) huv ab av (Ne.symm (ne hvb)))
      simp [isRing4, isPath4, isPairs4, four, node, hua, e1, hub, hav, e2, hbv] at this
  | true =>
    have e1' := (o.sym' v u).trans e1
    cases e2 : joined g a b with
    | false =>
      have := N.four a u v b la lu lv lb (nd (Ne.symm (ne hua)) av ab huv (Ne.symm bu) (ne hvb))
      simp [isRing4, isPath4, isPairs4, four, node, hau, e1, hub, hav, e2, hvb] at this
    | true =>
      have := N.four u a b v lu la lb lv (nd (ne hua) (Ne.symm bu) huv ab av (Ne.symm (ne hvb)))
      simp [isRing4, isPath4, isPairs4, four, node, hua, e1, hub, hav, e2, hbv] at this
def degIn (g : Graph) (S : List Nat) (v : Nat) : Nat := cnt (fun x => S.contains x && joined g v x) g.length
theorem cnt_split {p : Nat → Bool} {w : Nat} : ∀ n, w < n → cnt p n = cnt (fun x => p x && decide (x ≠ w)) n + (if p w = true then 1 else 0)
  | 0, h => by omega
  | n + 1, h => by
    rw [cnt_succ, cnt_succ]
    by_cases e : w = n
    · subst e
      rw [cnt_congr (p := fun x => p x && decide (x ≠ w)) (q := p) w fun i hi => by simp; intro; omega]
      simp
    · have := cnt_split (p := p) n (show w < n by omega)
      rw [this]
      have e' : n ≠ w := fun z => e z.symm
      by_cases q : p n = true <;> simp [q, e'] <;> omega
/-- a node that's joined with all others of these or with none -/
theorem even_one {g : Graph} (o : Ok g) (N : NoSteps g) {S : List Nat} (lt : ∀ u ∈ S, u < g.length) (hne : S ≠ []) : ∃ v ∈ S, even g (S.filter fun u => u != v) v = true := by
  obtain ⟨x0, hx0⟩ := List.exists_mem_of_ne_nil S hne
  obtain ⟨v, hv, mx⟩ := greatest (P := fun v => v ∈ S) (f := degIn g S) (B := g.length) (fun v _ => by
    unfold degIn cnt
    have := List.length_filter_le (fun x => S.contains x && joined g v x) (List.range g.length)
    rw [List.length_range] at this
    exact this) hx0
  by_cases dom : ∀ u ∈ S, u ≠ v → joined g u v = true
  · refine ⟨v, hv, even_iff.mpr (.inl fun u hu => ?_)⟩
    obtain ⟨h1, h2⟩ := List.mem_filter.mp hu
    exact dom u h1 (by simpa using h2)
  · simp only [Classical.not_forall] at dom
    obtain ⟨u, hu, uv, nuv⟩ := dom
    have nuv : joined g u v = false := by simpa using nuv
    refine ⟨u, hu, even_iff.mpr (.inr fun w hw => ?_)⟩
    obtain ⟨h1, h2⟩ := List.mem_filter.mp hw
    have wu : w ≠ u := by simpa using h2
    cases e : joined g w u with
    | false => rfl
    | true =>
      exfalso
      have wv : w ≠ v := fun z => by rw [z, o.sym', nuv] at e; cases e
      have sub : ∀ b, b < g.length → b ≠ w → b ≠ v → joined g v b = true → joined g w b = true := fun b _ bw bv h => by
        cases q : joined g w b with
        | true => rfl
        | false => exact (nested o N wv e ((o.sym' v u).trans nuv) uv h q bw).elim
      have l1 := lt v hv
      have l2 := lt w h1
      have d := mx w h1
      unfold degIn at d
      rw [cnt_split (w := v) g.length l1] at d
      rw [cnt_split (p := fun x => S.contains x && joined g v x) (w := w) g.length l2] at d
      have c := cnt_lt (y := u) (p := fun x => (S.contains x && joined g v x) && decide (x ≠ w)) (q := fun x => (S.contains x && joined g w x) && decide (x ≠ v)) g.length (fun i hi hp => by
        simp only [Bool.and_eq_true, decide_eq_true_eq] at hp ⊢
        obtain ⟨⟨a, b⟩, c⟩ := hp
        have iv : i ≠ v := fun z => by rw [z, o.self'] at b; cases b
        exact ⟨⟨a, sub i hi c iv b⟩, iv⟩) (lt u hu) (by rw [(o.sym' v u).trans nuv]; simp) (by
          simp only [Bool.and_eq_true, decide_eq_true_eq]
          exact ⟨⟨by simpa using hu, e⟩, uv⟩)
      have sw : (if (S.contains v && joined g w v) = true then 1 else 0) = (if (S.contains w && joined g v w) = true then 1 else 0) := by
        have a : S.contains v = true := by simpa using hv
        have b : S.contains w = true := by simpa using h1
        rw [a, b, o.sym' w v]
      omega
/-- each behind these is joined with all ahead of it or with none -/
def Beh (g : Graph) (done : Row) : Row → Prop
  | [] => True
  | v :: l => even g done v = true ∧ Beh g (done ++ [v]) l
theorem Beh.snoc {g : Graph} : ∀ {l done : Row} {v : Nat}, Beh g done l → even g (done ++ l) v = true → Beh g done (l ++ [v])
  | [], done, v, _, h => ⟨by simpa using h, trivial⟩
  | x :: l, done, v, h, e => ⟨h.1, Beh.snoc h.2 (by simpa using e)⟩
theorem Beh.last {g : Graph} : ∀ {l done : Row} {v : Nat}, Beh g done (l ++ [v]) → even g (done ++ l) v = true
  | [], done, v, h => by simpa using h.1
  | x :: l, done, v, h => by simpa using Beh.last h.2
theorem Beh.weaken {g : Graph} : ∀ {l done done' : Row}, Beh g done l → (∀ u ∈ done', u ∈ done) → Beh g done' l
  | [], _, _, _, _ => trivial
  | x :: l, done, done', h, s => ⟨even_sub h.1 s, Beh.weaken h.2 fun u hu => by
    rcases List.mem_append.mp hu with q | q
    · exact List.mem_append_left _ (s u q)
    · exact List.mem_append_right _ q⟩
theorem Beh.drop {g : Graph} (v : Nat) : ∀ {l done : Row}, Beh g done l → Beh g done (l.filter fun u => u != v)
  | [], _, _ => trivial
  | x :: l, done, h => by
    by_cases e : x = v
    · rw [List.filter_cons_of_neg (by simp [e])]
      exact Beh.drop v (h.2.weaken fun u hu => List.mem_append_left _ hu)
    · rw [List.filter_cons_of_pos (by simp [e])]
      exact ⟨h.1, Beh.drop v h.2⟩
/-- the others can come behind these -/
theorem ends_iff {g : Graph} {done : Row} : ∀ (f : Nat) (rest : Row), rest.Nodup → (∀ u ∈ rest, u ∉ done) → rest.length ≤ f → (ends g done f rest = true ↔ ∃ l, l.Nodup ∧ (∀ u, u ∈ l ↔ u ∈ rest) ∧ Beh g done l)
  | 0, rest, _, _, hl => by
    have : rest = [] := List.length_eq_zero_iff.mp (by omega)
    subst this
    exact ⟨fun _ => ⟨[], List.nodup_nil, fun _ => Iff.rfl, trivial⟩, fun _ => rfl⟩
  | f + 1, rest, nd, dj, hl => by
    unfold ends
    cases e : rest.find? (fun v => even g ((done ++ rest).filter fun u => u != v) v) with
    | none =>
      dsimp only
      rw [List.isEmpty_iff]
      constructor
      · intro h
        subst h
        exact ⟨[], List.nodup_nil, fun _ => Iff.rfl, trivial⟩
      · rintro ⟨l, h1, h2, h3⟩
        cases l with
        | nil =>
          cases rest with
          | nil => rfl
          | cons x t => exact absurd ((h2 x).mpr List.mem_cons_self) (by simp)
        | cons y t =>
          exfalso
          have hd := List.dropLast_concat_getLast (l := y :: t) (by simp)
          rw [← hd] at h3
          have hv : (y :: t).getLast (by simp) ∈ rest := (h2 _).mp (List.getLast_mem _)
          have := List.find?_eq_none.mp e _ hv
          refine this (even_sub h3.last fun u hu => ?_)
          obtain ⟨q1, q2⟩ := List.mem_filter.mp hu
          rcases List.mem_append.mp q1 with q | q
          · exact List.mem_append_left _ q
          · refine List.mem_append_right _ ?_
            have q3 := (h2 u).mpr q
            rw [← hd] at q3
            rcases List.mem_append.mp q3 with z | z
            · exact z
            · exact absurd (List.mem_singleton.mp z) (by simpa using q2)
    | some v =>
      dsimp only
      have hv := List.mem_of_find?_eq_some e
      have he : even g ((done ++ rest).filter fun u => u != v) v = true := List.find?_some (p := fun v => even g ((done ++ rest).filter fun u => u != v) v) e
      have hlen := filter_ne_len nd hv
      have nd' : (rest.filter fun u => u != v).Nodup := nd.filter _
      rw [ends_iff f _ nd' (fun u hu => dj u (List.mem_filter.mp hu).1) (by omega)]
      constructor
      · rintro ⟨l, h1, h2, h3⟩
        have hvl : v ∉ l := fun z => by
          have := (List.mem_filter.mp ((h2 v).mp z)).2
          simp at this
        refine ⟨l ++ [v], ?_, fun u => ?_, h3.snoc (even_sub he fun u hu => ?_)⟩
        · rw [List.nodup_append]
          refine ⟨h1, by simp, fun x hx y hy z => ?_⟩
          rw [List.mem_singleton.mp hy] at z
          exact hvl (z ▸ hx)
        · rw [List.mem_append, h2, List.mem_filter, List.mem_singleton]
          constructor
          · rintro (q | q)
            · exact q.1
            · rw [q]; exact hv
          · intro q
            by_cases z : u = v
            · exact .inr z
            · exact .inl ⟨q, by simp [z]⟩
        · refine List.mem_filter.mpr ⟨?_, ?_⟩
          · rcases List.mem_append.mp hu with q | q
            · exact List.mem_append_left _ q
            · exact List.mem_append_right _ (List.mem_filter.mp ((h2 u).mp q)).1
          · rcases List.mem_append.mp hu with q | q
            · have : u ≠ v := fun z => dj v hv (z ▸ q)
              simp [this]
            · exact (List.mem_filter.mp ((h2 u).mp q)).2
      · rintro ⟨l, h1, h2, h3⟩
        refine ⟨l.filter fun u => u != v, h1.filter _, fun u => ?_, h3.drop v⟩
        rw [List.mem_filter, List.mem_filter, h2]
end Gm

end
section
/-! the first of rows by shape; marks one by one -/
namespace L2
theorem lexN_tr : ∀ {a b c : List Nat}, lexN a b = true → lexN b c = true → lexN a c = true
  | [], _, _, h, _ => by cases h
  | _ :: _, [], _, h, _ => by cases h
  | _ :: _, _ :: _, [], _, h => by cases h
  | x :: xs, y :: ys, z :: zs, h1, h2 => by
    have h1 : (if x = y then lexN xs ys else decide (x < y)) = true := h1
    have h2 : (if y = z then lexN ys zs else decide (y < z)) = true := h2
    show (if x = z then lexN xs zs else decide (x < z)) = true
    by_cases e1 : x = y
    · rw [if_pos e1] at h1
      by_cases e2 : y = z
      · rw [if_pos e2] at h2
        rw [if_pos (e1.trans e2)]
        exact lexN_tr h1 h2
      · rw [if_neg e2, decide_eq_true_eq] at h2
        rw [if_neg (by omega), decide_eq_true_eq]; omega
    · rw [if_neg e1, decide_eq_true_eq] at h1
      by_cases e2 : y = z
      · rw [if_neg (by omega), decide_eq_true_eq]; omega
      · rw [if_neg e2, decide_eq_true_eq] at h2
        rw [if_neg (by omega), decide_eq_true_eq]; omega
theorem lexN_irr : ∀ a : List Nat, lexN a a = false
  | [] => rfl
  | x :: xs => by
    show (if x = x then lexN xs xs else decide (x < x)) = false
    rw [if_pos rfl, lexN_irr xs]
theorem rowLt_tr {a b c : List Nat} (h1 : rowLt a b = true) (h2 : rowLt b c = true) : rowLt a c = true := by
  unfold rowLt at *
  by_cases e1 : a.length = b.length
  · rw [if_pos e1] at h1
    by_cases e2 : b.length = c.length
    · rw [if_pos e2] at h2
      rw [if_pos (e1.trans e2)]
      exact lexN_tr h1 h2
    · rw [if_neg e2, decide_eq_true_eq] at h2
      rw [if_neg (by omega), decide_eq_true_eq]; omega
  · rw [if_neg e1, decide_eq_true_eq] at h1
    by_cases e2 : b.length = c.length
    · rw [if_neg (by omega), decide_eq_true_eq]; omega
    · rw [if_neg e2, decide_eq_true_eq] at h2
      rw [if_neg (by omega), decide_eq_true_eq]; omega
theorem rowLt_irr (a : List Nat) : rowLt a a = false := by
  unfold rowLt
  rw [if_pos rfl, lexN_irr]
theorem bst_least {better : Nat → Nat → Bool} (tr : ∀ i j k, better i j = true → better j k = true → better i k = true) (irr : ∀ i, better i i = false) : ∀ n j, j < n → better j (bst better n) = false
  | 0, _, h => absurd h (Nat.not_lt_zero _)
  | n + 1, j, h => by
    show better j (if n = 0 then 0 else if better n (bst better n) = true then n else bst better n) = false
    by_cases z : n = 0
    · rw [if_pos z]
      have : j = 0 := by omega
      rw [this]; exact irr 0
    · rw [if_neg z]
      by_cases b : better n (bst better n) = true
      · rw [if_pos b]
        by_cases e : j = n
        · rw [e]; exact irr n
        · cases q : better j n with
          | false => rfl
          | true =>
            have := tr _ _ _ q b
            rw [bst_least tr irr n j (by omega)] at this
            cases this
      · rw [if_neg b]
        by_cases e : j = n
        · rw [e]; simpa using b
        · exact bst_least tr irr n j (by omega)
end L2
namespace Gm
open Gg L2
theorem lexN_pre : ∀ (r a b : Row), lexN (r ++ a) (r ++ b) = lexN a b
  | [], _, _ => rfl
  | x :: r, a, b => by
    show (if x = x then lexN (r ++ a) (r ++ b) else _) = _
    rw [if_pos rfl, lexN_pre r a b]
theorem lexN_app : ∀ (r s a b : Row), r.length = s.length → lexN r s = true → lexN (r ++ a) (s ++ b) = true
  | [], _, _, _, _, h => by cases h
  | _ :: _, [], _, _, _, h => by cases h
  | x :: r, y :: s, a, b, hl, h => by
    have h : (if x = y then lexN r s else decide (x < y)) = true := h
    show (if x = y then lexN (r ++ a) (s ++ b) else decide (x < y)) = true
    by_cases e : x = y
    · rw [if_pos e] at h ⊢
      exact lexN_app r s a b (by simpa using hl) h
    · rw [if_neg e] at h ⊢
      exact h
theorem rowsOf_rise (g : Graph) : ∀ k, (rowsOf g k).Pairwise fun a b => lexN a b = true
  | 0 => by simp [rowsOf]
  | k + 1 => by
    show List.Pairwise _ ((rowsOf g k).flatMap fun r => ((nodes g).filter fun v => !r.contains v).map fun v => r ++ [v])
    rw [List.pairwise_flatMap]
    refine ⟨fun r _ => ?_, ?_⟩
    · rw [List.pairwise_map]
      refine List.Pairwise.imp ?_ ((List.pairwise_lt_range (n := g.length)).filter _)
      intro a b h
      rw [lexN_pre]
      show (if a = b then _ else decide (a < b)) = true
      rw [if_neg (by omega), decide_eq_true h]
    · have hl : ∀ r ∈ rowsOf g k, r.length = k := fun r hr => (rowsOf_mem hr).1
      refine List.Pairwise.imp_of_mem ?_ (rowsOf_rise g k)
      intro r s hr hs h x hx y hy
      obtain ⟨v, _, rfl⟩ := List.mem_map.mp hx
      obtain ⟨u, _, rfl⟩ := List.mem_map.mp hy
      exact lexN_app r s [v] [u] (by rw [hl r hr, hl s hs]) h
theorem find_leastR {p : Row → Bool} : ∀ {l : List Row}, l.Pairwise (fun a b => lexN a b = true) → ∀ {a : Row}, l.find? p = some a → ∀ x ∈ l, p x = true → x = a ∨ lexN a x = true
  | [], _, _, h, _, _, _ => by cases h
  | y :: l, hp, a, h, x, hx, px => by
    have hp' := List.pairwise_cons.mp hp
    by_cases py : p y = true
    · rw [List.find?_cons_of_pos py] at h
      cases h
      rcases List.mem_cons.mp hx with e | e
      · exact .inl e
      · exact .inr (hp'.1 x e)
    · rw [List.find?_cons_of_neg py] at h
      rcases List.mem_cons.mp hx with e | e
      · rw [e] at px; exact absurd px py
      · exact find_leastR hp'.2 h x e px
/-- the first that fits the one or the other is the first of one of them -/
theorem find_or {l : List Row} (hp : l.Pairwise (fun a b => lexN a b = true)) {p q : Row → Bool} (sub : ∀ x, p x = true → q x = true) {s : Row} (h : l.find? q = some s) (hs : p s = true) : l.find? p = some s := by
  have hm := List.mem_of_find?_eq_some h
  cases e : l.find? p with
  | none => exact absurd hs (List.find?_eq_none.mp e s hm)
  | some a =>
    have ha := List.mem_of_find?_eq_some e
    have pa := List.find?_some e
    rcases find_leastR hp h a ha (sub a pa) with z | z
    · rw [z]
    · rcases find_leastR hp e s hm hs with y | y
      · rw [y]
      · have := lexN_tr z y
        rw [lexN_irr] at this; cases this
/-! ### marks -/
def rfc (ch : List Nat) : Nat → Row → List Row
  | 0, r => [r]
  | f + 1, r => ch.flatMap fun v => rfc ch f (r ++ [v])
theorem rfc_ext (ch : List Nat) : ∀ (f : Nat) (r : Row), rfc ch (f + 1) r = (rfc ch f r).flatMap fun s => ch.map fun v => s ++ [v]
  | 0, r => by
    show ch.flatMap (fun v => [r ++ [v]]) = [r].flatMap fun s => ch.map fun v => s ++ [v]
    have e : ∀ l : List Nat, l.flatMap (fun v => [r ++ [v]]) = l.map fun v => r ++ [v] := by
      intro l
      induction l with
      | nil => rfl
      | cons x l ih => rw [List.flatMap_cons, ih]; rfl
    rw [e, List.flatMap_singleton]
  | f + 1, r => by
    show ch.flatMap (fun v => rfc ch (f + 1) (r ++ [v])) = (ch.flatMap fun v => rfc ch f (r ++ [v])).flatMap _
    rw [List.flatMap_assoc]
    congr 1
    funext v
    exact rfc_ext ch f (r ++ [v])
theorem rfc_marks : ∀ k, rfc [0, 1] k [] = marks k
  | 0 => rfl
  | k + 1 => by
    rw [rfc_ext, rfc_marks k]
    rfl
theorem rfc_pre {ch : List Nat} : ∀ {f : Nat} {r R : Row}, R ∈ rfc ch f r → R.take r.length = r ∧ R.length = r.length + f
  | 0, r, R, h => by
    rw [List.mem_singleton.mp h]
    exact ⟨List.take_length, rfl⟩
  | f + 1, r, R, h => by
    obtain ⟨v, _, hR⟩ := List.mem_flatMap.mp h
    obtain ⟨h1, h2⟩ := rfc_pre hR
    rw [List.length_append] at h1 h2
    refine ⟨?_, by rw [h2]; show r.length + 1 + f = _; omega⟩
    have : R.take r.length = (R.take (r.length + [v].length)).take r.length := by rw [List.take_take]; congr 1; simp
    rw [this, h1, List.take_append_of_le_length (Nat.le_refl _), List.take_length]
theorem dfs_rfc {ch : List Nat} {p : Row → Nat → Bool} (k : Nat) : ∀ (f : Nat) (r : Row), r.length + f = k → dfs p ch k f r = (rfc ch f r).find? (okF p k r.length)
  | 0, r, hl => by
    show (if r.length = k then some r else none) = [r].find? (okF p k r.length)
    rw [if_pos (by omega)]
    have : okF p k r.length r = true := decide_eq_true fun i h1 h2 => by omega
    rw [List.find?_cons_of_pos this]
  | f + 1, r, hl => by
    show (if r.length = k then some r else ch.findSome? fun c => if p r c = true then dfs p ch k f (r ++ [c]) else none) = (ch.flatMap fun v => rfc ch f (r ++ [v])).find? (okF p k r.length)
    rw [if_neg (by omega), List.find?_flatMap]
    congr 1
    funext c
    have sub : ∀ R ∈ rfc ch f (r ++ [c]), R.take r.length = r ∧ node R r.length = c := fun R hR => by
      obtain ⟨h1, h2⟩ := rfc_pre hR
      have h1' : R.take (r.length + 1) = r ++ [c] := by
        have : (r ++ [c]).length = r.length + 1 := by rw [List.length_append]; rfl
        rw [this] at h1; exact h1
      refine ⟨?_, ?_⟩
      · have : R.take r.length = (R.take (r.length + 1)).take r.length := by rw [List.take_take]; congr 1; omega
        rw [this, h1', List.take_append_of_le_length (Nat.le_refl _), List.take_length]
      · have e : R[r.length]? = some c := by
          have : (R.take (r.length + 1))[r.length]? = R[r.length]? := List.getElem?_take_of_lt (by omega)
          rw [← this, h1', List.getElem?_append_right (Nat.le_refl _)]
          simp
        unfold node
        rw [List.getD_eq_getElem?_getD, e]; rfl
    by_cases hc : p r c = true
    · rw [if_pos hc, dfs_rfc k f (r ++ [c]) (by rw [List.length_append]; show r.length + 1 + f = k; omega)]
      refine find_congr fun R hR => ?_
      obtain ⟨h1, h2⟩ := sub R hR
      unfold okF
      rw [List.length_append]
      refine decide_eq_decide.mpr ⟨fun h i i1 i2 => ?_, fun h i i1 i2 => h i i1 (by have : r.length + 1 ≤ i := i2; omega)⟩
      by_cases e : i = r.length
      · subst e
        rw [h1, h2]; exact hc
      · exact h i i1 (by show r.length + 1 ≤ i; omega)
    · rw [if_neg hc]
      have none_ : (rfc ch f (r ++ [c])).find? (okF p k r.length) = none := by
        rw [List.find?_eq_none]
        intro R hR z
        obtain ⟨h1, h2⟩ := sub R hR
        have := of_decide_eq_true z r.length (by omega) (Nat.le_refl _)
        rw [h1, h2] at this
        exact hc this
      rw [none_]
/-- the mark fits -/
def markP (g : Graph) (r : Row) (c : Nat) : Bool := ((List.range r.length).filter fun u => decide (node r u = c)).all fun u => joined g r.length u == decide (c = 1)
theorem node_take {R : Row} {i u : Nat} (h : u < i) : node (R.take i) u = node R u := by
  unfold node
  rw [List.getD_eq_getElem?_getD, List.getD_eq_getElem?_getD, List.getElem?_take_of_lt h]
theorem split_dfs {g : Graph} (o : Ok g) : dfs (markP g) [0, 1] g.length g.length [] = Gg.split g := by
  rw [dfs_rfc g.length g.length [] (by simp), rfc_marks]
  unfold Gg.split
  refine find_congr fun R hR => ?_
  have hl := ((mem_marks _ R).mp hR).1
  rw [Bool.eq_iff_iff, isSplit_iff]
  unfold okF
  rw [decide_eq_true_eq]
  have key : ∀ j, j < g.length → (markP g (R.take j) (node R j) = true ↔ ∀ u, u < j → node R u = node R j → joined g j u = decide (node R j = 1)) := fun j hj => by
    have tl : (R.take j).length = j := by rw [List.length_take]; omega
    unfold markP
    rw [List.all_eq_true, tl]
    constructor
    · intro h u hu e
      have := h u (List.mem_filter.mpr ⟨List.mem_range.mpr hu, by rw [node_take hu]; exact decide_eq_true e⟩)
      simpa using this
    · intro h u hu
      obtain ⟨h1, h2⟩ := List.mem_filter.mp hu
      have h1 := List.mem_range.mp h1
      rw [node_take h1, decide_eq_true_eq] at h2
      rw [h u h1 h2]; simp
  constructor
  · intro h i j hij hj
    have := (key j hj).mp (h j hj (Nat.zero_le _)) i hij
    refine ⟨fun a b => ?_, fun a b => ?_⟩
    · rw [o.sym', this (by rw [a, b]), b]; rfl
    · rw [o.sym', this (by rw [a, b]), b]; rfl
  · intro h j hj _
    refine (key j hj).mpr fun u hu e => ?_
    obtain ⟨h1, h2⟩ := h u j hu hj
    rcases bit_of hR hj with b | b
    · rw [o.sym', h2 (by rw [e, b]) b, b]; rfl
    · rw [o.sym', h1 (by rw [e, b]) b, b]; rfl
theorem split_eq (ns : List Int) : PyWrgood.split ns = if isGraph (WrgoodNeutral.graph ns) = true then (match Gg.split (WrgoodNeutral.graph ns) with
    | some r => 1 :: r.map fun (k : Nat) => (k : Int)
    | none => 0 :: ((notSplit (WrgoodNeutral.graph ns)).getD []).map fun (k : Nat) => (k : Int)) else [-1] := by
  show WrgoodNeutral.told (if isGraph (WrgoodNeutral.graph ns) = true then (match Gg.split (WrgoodNeutral.graph ns) with
    | some m => Wrgood.Answer.yes m
    | none => .not_ ((notSplit (WrgoodNeutral.graph ns)).getD [])) else .no (-1)) = _
  by_cases h : isGraph (WrgoodNeutral.graph ns) = true
  · rw [if_pos h, if_pos h]
    cases Gg.split (WrgoodNeutral.graph ns) <;> rfl
  · rw [if_neg h, if_neg h]; rfl
theorem steps_eq (ns : List Int) : PyWrgood.steps ns = if isGraph (WrgoodNeutral.graph ns) = true then (match notSteps (WrgoodNeutral.graph ns) with | some r => 0 :: r.map (fun (k : Nat) => (k : Int)) | none => 1 :: (Gg.steps (WrgoodNeutral.graph ns)).map (fun (k : Nat) => (k : Int))) else [-1] := by
  show WrgoodNeutral.told (if isGraph (WrgoodNeutral.graph ns) = true then Wrgood.kindOf (notSteps (WrgoodNeutral.graph ns)) (Gg.steps (WrgoodNeutral.graph ns)) else .no (-1)) = _
  by_cases h : isGraph (WrgoodNeutral.graph ns) = true
  · rw [if_pos h, if_pos h]
    unfold Wrgood.kindOf
    cases notSteps (WrgoodNeutral.graph ns) <;> rfl
  · rw [if_neg h, if_neg h]; rfl
end Gm

end
section
/-! directed: pairs that direct one another, and an order of all by the first pair of each kind -/
namespace Gm
open Gg
/-- a to b directed directs c to d -/
inductive Fc (g : Graph) (a b : Nat) : Nat → Nat → Prop
  | refl : joined g a b = true → Fc g a b a b
  | left {c d e : Nat} : Fc g a b c d → joined g e d = true → joined g c e = false → Fc g a b e d
  | right {c d e : Nat} : Fc g a b c d → joined g c e = true → joined g d e = false → Fc g a b c e
section
variable {g : Graph}
theorem Fc.dst {a b c d : Nat} (h : Fc g a b c d) : joined g c d = true := by
  cases h with
  | refl j => exact j
  | left _ j _ => exact j
  | right _ j _ => exact j
theorem Fc.src {a b c d : Nat} (h : Fc g a b c d) : joined g a b = true := by
  induction h with
  | refl j => exact j
  | left _ _ _ ih => exact ih
  | right _ _ _ ih => exact ih
theorem Fc.trans {a b c d e f : Nat} (h : Fc g a b c d) (k : Fc g c d e f) : Fc g a b e f := by
  induction k with
  | refl _ => exact h
  | left _ j n ih => exact .left ih j n
  | right _ j n ih => exact .right ih j n
theorem Fc.symm (o : Ok g) {a b c d : Nat} (h : Fc g a b c d) : Fc g c d a b := by
  induction h with
  | refl j => exact .refl j
  | @left c d e h j n ih => exact (Fc.left (.refl j) h.dst (by rw [o.sym']; exact n)).trans ih
  | @right c d e h j n ih => exact (Fc.right (.refl j) h.dst (by rw [o.sym']; exact n)).trans ih
theorem Fc.rev (o : Ok g) {a b c d : Nat} (h : Fc g a b c d) : Fc g b a d c := by
  induction h with
  | refl j => exact .refl (by rw [o.sym']; exact j)
  | left _ j n ih => exact .right ih (by rw [o.sym']; exact j) n
  | right _ j n ih => exact .left ih (by rw [o.sym']; exact j) n
/-- of three joined with one another: a pair that the others don't direct moves, the third stays -/
theorem Fc.tri (o : Ok g) {a b c : Nat} (hab : joined g a b = true) (hac : joined g a c = true) (n1 : ¬ Fc g b c a c) (n2 : ¬ Fc g b c b a) {x y : Nat} (h : Fc g b c x y) : Fc g a b a x ∧ Fc g a c a y := by
  induction h with
  | refl _ => exact ⟨.refl hab, .refl hac⟩
  | @left c' d e h j n ih =>
    -- e d with c' and e not joined
    obtain ⟨i1, i2⟩ := ih
    refine ⟨?_, i2⟩
    cases q : joined g a e with
    | true => exact i1.right q n
    | false =>
      exfalso
      -- a d is directed like e d
      have : Fc g b c a d := (Fc.left h j n).left i2.dst (by rw [o.sym']; exact q)
      exact n1 (this.trans (i2.symm o))
  | @right c' d e h j n ih =>
    obtain ⟨i1, i2⟩ := ih
    refine ⟨i1, ?_⟩
    cases q : joined g a e with
    | true => exact i2.right q n
    | false =>
      exfalso
      have : Fc g b c c' a := (Fc.right h j n).right (by rw [o.sym']; exact i1.dst) (by rw [o.sym']; exact q)
      exact n2 (this.trans ((i1.rev o).symm o))
/-! ### directing all -/
def Dir (g : Graph) (x y : Nat) : Prop := ∃ u v, u < v ∧ Fc g x y u v ∧ ∀ u' v', u' < v' → (Fc g x y u' v' ∨ Fc g x y v' u') → u * 8 + v ≤ u' * 8 + v'
theorem Dir.inv (o : Ok g) {x y x' y' : Nat} (h : Dir g x y) (k : Fc g x y x' y') : Dir g x' y' := by
  obtain ⟨u, v, h1, h2, h3⟩ := h
  exact ⟨u, v, h1, (k.symm o).trans h2, fun u' v' l q => h3 u' v' l (q.imp (fun z => k.trans z) fun z => k.trans z)⟩
theorem Dir.jn {x y : Nat} (h : Dir g x y) : joined g x y = true := by
  obtain ⟨u, v, _, h2, _⟩ := h
  exact h2.src
theorem least_nat {P : Nat → Prop} {k : Nat} (h : P k) : ∃ m, P m ∧ ∀ j, P j → m ≤ j := by
  induction k using Nat.strongRecOn with
  | _ k ih =>
    by_cases q : ∃ j, j < k ∧ P j
    · obtain ⟨j, hj, hp⟩ := q
      exact ih j hj hp
    · refine ⟨k, h, fun j hp => ?_⟩
      rcases Nat.lt_or_ge j k with z | z
      · exact absurd ⟨j, z, hp⟩ q
      · exact z
theorem Dir.total (o : Ok g) {x y : Nat} (h : joined g x y = true) : Dir g x y ∨ Dir g y x := by
  have ne : x ≠ y := fun e => by rw [e, o.self'] at h; cases h
  have ex : ∃ k, ∃ u v, u < v ∧ (Fc g x y u v ∨ Fc g x y v u) ∧ k = u * 8 + v := by
    rcases Nat.lt_or_gt_of_ne ne with q | q
    · exact ⟨_, x, y, q, .inl (.refl h), rfl⟩
    · exact ⟨_, y, x, q, .inr (.refl h), rfl⟩
  obtain ⟨k, hk⟩ := ex
  obtain ⟨m, ⟨u, v, h1, h2, h3⟩, hm⟩ := least_nat (P := fun k => ∃ u v, u < v ∧ (Fc g x y u v ∨ Fc g x y v u) ∧ k = u * 8 + v) hk
  have mn : ∀ u' v', u' < v' → (Fc g x y u' v' ∨ Fc g x y v' u') → u * 8 + v ≤ u' * 8 + v' := fun u' v' l q => by
    rw [← h3]
    exact hm _ ⟨u', v', l, q, rfl⟩
  rcases h2 with q | q
  · exact .inl ⟨u, v, h1, q, mn⟩
  · exact .inr ⟨u, v, h1, q.rev o, fun u' v' l z => mn u' v' l (z.elim (fun w => .inr (w.rev o)) fun w => .inl (w.rev o))⟩
theorem Dir.anti (o : Ok g) (no : ∀ a b, ¬ Fc g a b b a) {x y : Nat} (h : Dir g x y) (k : Dir g y x) : False := by
  obtain ⟨u, v, h1, h2, h3⟩ := h
  obtain ⟨u', v', k1, k2, k3⟩ := k
  have l1 := h3 u' v' k1 (.inr (k2.rev o))
  have l2 := k3 u v h1 (.inr (h2.rev o))
  have a1 := (o.joined_lt h2.dst).2
  have a2 := (o.joined_lt k2.dst).2
  have a3 := o.le
  have e1 : u = u' := by omega
  have e2 : v = v' := by omega
  subst e1 e2
  exact no x y (h2.trans (k2.symm o))
theorem Dir.trans (o : Ok g) (no : ∀ a b, ¬ Fc g a b b a) {a b c : Nat} (h1 : Dir g a b) (h2 : Dir g b c) : Dir g a c := by
  have anti := fun {x y} (h : Dir g x y) (k : Dir g y x) => Dir.anti o no h k
  have jab := h1.jn
  have jbc := h2.jn
  cases jac : Gg.joined g a c with
  | false =>
    exfalso
    -- a b directs c b
    have : Fc g a b c b := .left (.refl jab) (by rw [o.sym']; exact jbc) jac
    exact anti h2 (h1.inv o this)
  | true =>
    rcases Dir.total o jac with q | q
    · exact q
    exfalso
    -- a ring of three directed round; of the three kinds take the one with the first pair
    have key : ∀ a b c, Dir g a b → Dir g b c → Dir g c a → ∀ u v, u < v → Fc g b c u v → (∀ u' v', u' < v' → (Fc g b c u' v' ∨ Fc g b c v' u') → u * 8 + v ≤ u' * 8 + v') → (∀ u' v', u' < v' → (Fc g a b u' v' ∨ Fc g a b v' u') → u * 8 + v ≤ u' * 8 + v') → False := by
      intro a b c d1 d2 d3 u v huv f2 _ m1
      have t1 := Fc.tri (a := a) o d1.jn (by rw [o.sym']; exact d3.jn) (fun z => anti d3 (d2.inv o z)) (fun z => anti d1 (d2.inv o z)) f2
      have dau : Dir g a u := d1.inv o (by
        have := t1.1
        exact this)
      have dva : Dir g v a := d3.inv o ((t1.2).rev o)
      have duv : Dir g u v := d2.inv o f2
      have lu := o.joined_lt duv.jn
      have la := o.joined_lt dau.jn
      have h8 := o.le
      have au : a ≠ u := fun e => by have := dau.jn; rw [e, o.self'] at this; cases this
      have va : v ≠ a := fun e => by have := dva.jn; rw [e, o.self'] at this; cases this
      -- the first pair of a u
      have m1' : ∀ u' v', u' < v' → (Fc g a u u' v' ∨ Fc g a u v' u') → u * 8 + v ≤ u' * 8 + v' := fun u' v' l z => m1 u' v' l (z.imp (fun w => t1.1.trans w) fun w => t1.1.trans w)
      have ua : u < a := by
        rcases Nat.lt_or_gt_of_ne au with z | z
        · have := m1' a u z (.inl (.refl dau.jn))
          omega
        · exact z
      obtain ⟨p, r, hpr, f3, m3⟩ := dau
      have l1 := m1' p r hpr (.inl f3)
      have l2 := m3 u a ua (.inr (.refl f3.src))
      have lp := o.joined_lt f3.dst
      have ep : p = u := by omega
      subst ep
      have dau : Dir g a p := ⟨p, r, hpr, f3, m3⟩
      have t2 := Fc.tri (a := v) o dva.jn (by rw [o.sym']; exact duv.jn) (fun z => anti duv (dau.inv o z)) (fun z => anti dva (dau.inv o z)) f3
      exact anti duv (dva.inv o t2.1)
    obtain ⟨u1, v1, l1, f1, m1⟩ := h1
    obtain ⟨u2, v2, l2, f2, m2⟩ := h2
    obtain ⟨u3, v3, l3, f3, m3⟩ := q
    have d1 : Dir g a b := ⟨u1, v1, l1, f1, m1⟩
    have d2 : Dir g b c := ⟨u2, v2, l2, f2, m2⟩
    have d3 : Dir g c a := ⟨u3, v3, l3, f3, m3⟩
    -- rotate so that the second is no later than the first
    by_cases q1 : u2 * 8 + v2 ≤ u1 * 8 + v1
    · exact key a b c d1 d2 d3 u2 v2 l2 f2 m2 fun u' v' l z => Nat.le_trans q1 (m1 u' v' l z)
    · by_cases q2 : u3 * 8 + v3 ≤ u2 * 8 + v2
      · exact key b c a d2 d3 d1 u3 v3 l3 f3 m3 fun u' v' l z => Nat.le_trans q2 (m2 u' v' l z)
      · exact key c a b d3 d1 d2 u1 v1 l1 f1 m1 fun u' v' l z => Nat.le_trans (by omega) (m3 u' v' l z)
/-- each joined pair directed, and what leads to what leads on -/
structure Orient (g : Graph) (F : Nat → Nat → Prop) : Prop where
  sub : ∀ a b, F a b → joined g a b = true
  tot : ∀ a b, joined g a b = true → F a b ∨ F b a
  anti : ∀ a b, F a b → F b a → False
  trans : ∀ a b c, F a b → F b c → F a c
theorem Orient.closed (o : Ok g) {F : Nat → Nat → Prop} (O : Orient g F) {a b c d : Nat} (h : Fc g a b c d) (f : F a b) : F c d := by
  induction h with
  | refl _ => exact f
  | @left c d e _ j n ih =>
    rcases O.tot e d j with q | q
    · exact q
    · have := O.sub _ _ (O.trans _ _ _ ih q)
      rw [n] at this
      cases this
  | @right c d e _ j n ih =>
    rcases O.tot c e j with q | q
    · exact q
    · have := O.sub _ _ (O.trans _ _ _ q ih)
      rw [o.sym', n] at this
      cases this
theorem orient_iff (o : Ok g) : (∃ F, Orient g F) ↔ ∀ a b, ¬ Fc g a b b a := by
  constructor
  · rintro ⟨F, O⟩ a b h
    rcases O.tot a b h.src with q | q
    · exact O.anti a b q (O.closed o h q)
    · exact O.anti b a q (O.closed o (h.symm o) q)
  · intro no
    exact ⟨Dir g, fun a b h => h.jn, fun a b h => Dir.total o h, fun a b h k => Dir.anti o no h k, fun a b c h k => Dir.trans o no h k⟩
/-! ### the specification's own look -/
theorem mem_arrows {a b : Nat} (o : Ok g) : (⟨a, b⟩ : Arrow) ∈ arrows g ↔ joined g a b = true := by
  unfold arrows nodes
  simp only [List.mem_flatMap, List.mem_map, List.mem_filter, List.mem_range]
  constructor
  · rintro ⟨i, _, j, ⟨_, h⟩, e⟩
    injection e with e1 e2
    rw [← e1, ← e2]; exact h
  · intro h
    exact ⟨a, (o.joined_lt h).1, b, ⟨(o.joined_lt h).2, h⟩, rfl⟩
theorem arrows_nodup (g : Graph) : (arrows g).Nodup := by
  unfold arrows nodes
  unfold List.Nodup
  rw [List.pairwise_flatMap]
  constructor
  · intro i _
    rw [List.pairwise_map]
    exact (List.nodup_range.filter _).imp fun h e => h (by injection e)
  · refine List.nodup_range.imp ?_
    intro i j hij x hx y hy e
    obtain ⟨p, _, rfl⟩ := List.mem_map.mp hx
    obtain ⟨q, _, rfl⟩ := List.mem_map.mp hy
    exact hij (by injection e)
theorem nodup_le {α : Type} : ∀ {l m : List α}, l.Nodup → (∀ x ∈ l, x ∈ m) → l.length ≤ m.length
  | [], _, _, _ => Nat.zero_le _
  | a :: t, m, nd, sub => by
    obtain ⟨p, q, e⟩ := List.append_of_mem (sub a List.mem_cons_self)
    subst e
    rw [List.nodup_cons] at nd
    have := nodup_le (l := t) (m := p ++ q) nd.2 fun x hx => by
      have h := sub x (List.mem_cons_of_mem _ hx)
      rcases List.mem_append.mp h with z | z
      · exact List.mem_append_left _ z
      · rcases List.mem_cons.mp z with w | w
        · exact absurd (w ▸ hx) nd.1
        · exact List.mem_append_right _ w
    simp only [List.length_append, List.length_cons] at this ⊢
    omega
theorem nodup_full {α : Type} {l m : List α} (nd : l.Nodup) (sub : ∀ x ∈ l, x ∈ m) (h : m.length ≤ l.length) : ∀ x ∈ m, x ∈ l := fun x hx => by
  refine Classical.byContradiction fun nx => ?_
  have := nodup_le (l := x :: l) (m := m) (List.nodup_cons.mpr ⟨nx, nd⟩) fun y hy => by
    rcases List.mem_cons.mp hy with z | z
    · exact z ▸ hx
    · exact sub y z
  simp only [List.length_cons] at this
  omega
def grow (g : Graph) (all l : List Arrow) : List Arrow := all.filter fun y => l.any fun x => sameArrow x y || forces g x y
theorem mem_grow {all l : List Arrow} {y : Arrow} : y ∈ grow g all l ↔ y ∈ all ∧ ∃ x ∈ l, x = y ∨ forces g x y = true := by
  unfold grow
  rw [List.mem_filter, List.any_eq_true]
  refine and_congr_right fun _ => ?_
  constructor
  · rintro ⟨x, hx, h⟩
    refine ⟨x, hx, ?_⟩
    rw [Bool.or_eq_true] at h
    refine h.imp (fun z => ?_) id
    unfold sameArrow at z
    rw [Bool.and_eq_true, beq_iff_eq, beq_iff_eq] at z
    cases x; cases y
    simp only [Arrow.mk.injEq]
    exact z
  · rintro ⟨x, hx, h⟩
    refine ⟨x, hx, ?_⟩
    rw [Bool.or_eq_true]
    refine h.imp (fun z => ?_) id
    subst z
    unfold sameArrow
    simp
theorem forces_iff {a b c d : Nat} : forces g ⟨a, b⟩ ⟨c, d⟩ = true ↔ (a = c ∧ joined g c d = true ∧ joined g b d = false) ∨ (b = d ∧ joined g c d = true ∧ joined g a c = false) := by
  unfold forces
  simp
theorem forcedFrom_closed (o : Ok g) : ∀ (f : Nat) (l : List Arrow), l.Nodup → (∀ x ∈ l, x ∈ arrows g) → (arrows g).length < f + l.length →
    (∀ x ∈ l, x ∈ forcedFrom g (arrows g) f l) ∧ ∀ x ∈ forcedFrom g (arrows g) f l, ∀ y ∈ arrows g, forces g x y = true → y ∈ forcedFrom g (arrows g) f l
  | 0, l, nd, sub, h => by
    have := nodup_le nd sub
    omega
  | f + 1, l, nd, sub, h => by
    have sub' : ∀ x ∈ l, x ∈ grow g (arrows g) l := fun x hx => mem_grow.mpr ⟨sub x hx, x, hx, .inl rfl⟩
    have ndg : (grow g (arrows g) l).Nodup := (arrows_nodup g).filter _
    have hl := nodup_le nd sub'
    unfold forcedFrom
    show (∀ x ∈ l, x ∈ if (grow g (arrows g) l).length = l.length then l else forcedFrom g (arrows g) f (grow g (arrows g) l)) ∧ _
    show (∀ x ∈ l, x ∈ if (grow g (arrows g) l).length = l.length then l else forcedFrom g (arrows g) f (grow g (arrows g) l)) ∧ ∀ x ∈ (if (grow g (arrows g) l).length = l.length then l else forcedFrom g (arrows g) f (grow g (arrows g) l)), ∀ y ∈ arrows g, forces g x y = true → y ∈ (if (grow g (arrows g) l).length = l.length then l else forcedFrom g (arrows g) f (grow g (arrows g) l))
    by_cases e : (grow g (arrows g) l).length = l.length
    · rw [if_pos e]
      refine ⟨fun _ h => h, fun x hx y hy hf => ?_⟩
      exact nodup_full nd sub' (Nat.le_of_eq e) _ (mem_grow.mpr ⟨hy, x, hx, .inr hf⟩)
    · rw [if_neg e]
      obtain ⟨i1, i2⟩ := forcedFrom_closed o f (grow g (arrows g) l) ndg (fun x hx => (mem_grow.mp hx).1) (by omega)
      exact ⟨fun x hx => i1 x (sub' x hx), i2⟩
theorem forcedFrom_sound : ∀ (f : Nat) (l : List Arrow) (P : Arrow → Prop), (∀ x ∈ l, P x) → (∀ x y, P x → y ∈ arrows g → forces g x y = true → P y) → ∀ x ∈ forcedFrom g (arrows g) f l, P x
  | 0, l, P, h, _, x, hx => h x hx
  | f + 1, l, P, h, st, x, hx => by
    unfold forcedFrom at hx
    have hx : x ∈ if (grow g (arrows g) l).length = l.length then l else forcedFrom g (arrows g) f (grow g (arrows g) l) := hx
    by_cases e : (grow g (arrows g) l).length = l.length
    · rw [if_pos e] at hx
      exact h x hx
    · rw [if_neg e] at hx
      refine forcedFrom_sound f _ P (fun y hy => ?_) st x hx
      obtain ⟨ha, z, hz, q⟩ := mem_grow.mp hy
      rcases q with q | q
      · exact q ▸ h z hz
      · exact st z y (h z hz) ha q
theorem forced_iff (o : Ok g) {a b c d : Nat} (h : joined g a b = true) : (⟨c, d⟩ : Arrow) ∈ forcedFrom g (arrows g) (arrows g).length [⟨a, b⟩] ↔ Fc g a b c d := by
  constructor
  · intro hx
    refine forcedFrom_sound (g := g) _ _ (fun x => Fc g a b x.a x.b) (fun x hx => ?_) (fun x y hp hy hf => ?_) _ hx
    · rw [List.mem_singleton.mp hx]; exact .refl h
    · obtain ⟨xa, xb⟩ := x
      obtain ⟨ya, yb⟩ := y
      rcases forces_iff.mp hf with ⟨e, j, n⟩ | ⟨e, j, n⟩
      · subst e; exact Fc.right hp j n
      · subst e; exact Fc.left hp j n
  · intro hf
    obtain ⟨i1, i2⟩ := forcedFrom_closed o (arrows g).length [⟨a, b⟩] (by simp) (fun x hx => by rw [List.mem_singleton.mp hx]; exact (mem_arrows o).mpr h) (by simp)
    induction hf with
    | refl _ => exact i1 _ (by simp)
    | @left c d e _ j n ih => exact i2 _ ih _ ((mem_arrows o).mpr j) (forces_iff.mpr (.inr ⟨rfl, j, n⟩))
    | @right c d e _ j n ih => exact i2 _ ih _ ((mem_arrows o).mpr j) (forces_iff.mpr (.inl ⟨rfl, j, n⟩))
theorem directed_iff (o : Ok g) : Gg.directed g = true ↔ ∀ a b, ¬ Fc g a b b a := by
  unfold Gg.directed
  dsimp only
  rw [List.all_eq_true]
  constructor
  · intro h a b hf
    have := h ⟨a, b⟩ ((mem_arrows o).mpr hf.src)
    rw [Bool.not_eq_true', List.any_eq_false] at this
    exact this ⟨b, a⟩ ((forced_iff o hf.src).mpr hf) (by simp)
  · intro h x hx
    obtain ⟨a, b⟩ := x
    have j := (mem_arrows o).mp hx
    rw [Bool.not_eq_true', List.any_eq_false]
    intro y hy e
    obtain ⟨c, d⟩ := y
    rw [Bool.and_eq_true, beq_iff_eq, beq_iff_eq] at e
    obtain ⟨e1, e2⟩ := e
    have e1 : c = b := e1
    have e2 : d = a := e2
    subst e1 e2
    exact h _ _ ((forced_iff o j).mp hy)
end
end Gm

end
section
/-! all that one comes to -/
namespace Gm
inductive Rt {α : Type} (nx : α → List α) (x : α) : α → Prop
  | refl : Rt nx x x
  | step {y z : α} : Rt nx x y → z ∈ nx y → Rt nx x z
/-- what's found and what waits -/
structure InvR {α : Type} (nx : α → List α) (U : List α) (x : α) (xs ws : List α) : Prop where
  at_ : x ∈ xs
  nd : xs.Nodup
  nw : ws.Nodup
  sub : ∀ y ∈ ws, y ∈ xs
  ok : ∀ y ∈ xs, y ∈ U ∧ Rt nx x y
  shut : ∀ y ∈ xs, y ∉ ws → ∀ z ∈ nx y, z ∈ xs
theorem InvR.done {α : Type} {nx : α → List α} {U : List α} {x : α} {xs : List α} (h : InvR nx U x xs []) (y : α) : y ∈ xs ↔ Rt nx x y := by
  refine ⟨fun m => (h.ok y m).2, fun r => ?_⟩
  induction r with
  | refl => exact h.at_
  | step _ hz ih => exact h.shut _ ih (by simp) _ hz
/-- while those behind one are looked at -/
structure InvF {α : Type} (nx : α → List α) (U : List α) (x y : α) (i : Nat) (xs ws : List α) : Prop where
  at_ : x ∈ xs
  nd : xs.Nodup
  nw : ws.Nodup
  sub : ∀ y ∈ ws, y ∈ xs
  ok : ∀ y ∈ xs, y ∈ U ∧ Rt nx x y
  yx : y ∈ xs
  yw : y ∉ ws
  shut : ∀ z ∈ xs, z ∉ ws → z ≠ y → ∀ t ∈ nx z, t ∈ xs
  part : ∀ z ∈ (nx y).take i, z ∈ xs
theorem InvR.pop {α : Type} {nx : α → List α} {U : List α} {x y : α} {xs ws : List α} (h : InvR nx U x xs (ws ++ [y])) : InvF nx U x y 0 xs ws := by
  have nw := List.nodup_append.mp h.nw
  have yw : y ∉ ws := fun z => nw.2.2 y z y (by simp) rfl
  exact ⟨h.at_, h.nd, nw.1, fun z hz => h.sub z (List.mem_append_left _ hz), h.ok, h.sub y (by simp), yw, fun z hz hw ne t ht => h.shut z hz (fun m => by
    rcases List.mem_append.mp m with q | q
    · exact hw q
    · exact ne (List.mem_singleton.mp q)) t ht, fun z hz => by simp at hz⟩
theorem InvF.skip {α : Type} {nx : α → List α} {U : List α} {x y z : α} {i : Nat} {xs ws : List α} (h : InvF nx U x y i xs ws) (hz : (nx y)[i]? = some z) (hm : z ∈ xs) : InvF nx U x y (i + 1) xs ws := by
  refine ⟨h.at_, h.nd, h.nw, h.sub, h.ok, h.yx, h.yw, h.shut, fun t ht => ?_⟩
  have hlt := (List.getElem?_eq_some_iff.mp hz).1
  have hx := (List.getElem?_eq_some_iff.mp hz).2
  rw [List.take_succ_eq_append_getElem hlt, hx] at ht
  rcases List.mem_append.mp ht with q | q
  · exact h.part t q
  · rw [List.mem_singleton.mp q]; exact hm
theorem InvF.add {α : Type} {nx : α → List α} {U : List α} {x y z : α} {i : Nat} {xs ws : List α} (hU : ∀ x ∈ U, ∀ z ∈ nx x, z ∈ U) (h : InvF nx U x y i xs ws) (hz : (nx y)[i]? = some z) (hm : z ∉ xs) : InvF nx U x y (i + 1) (xs ++ [z]) (ws ++ [z]) := by
  have mz : z ∈ nx y := List.mem_of_getElem? hz
  have snoc : ∀ {l : List α}, l.Nodup → z ∉ l → (l ++ [z]).Nodup := fun {l} nd nz => by
    rw [List.nodup_append]
    refine ⟨nd, by simp, fun a ha b hb e => ?_⟩
    rw [List.mem_singleton.mp hb] at e
    exact nz (e ▸ ha)
  refine ⟨List.mem_append_left _ h.at_, snoc h.nd hm, snoc h.nw fun q => hm (h.sub z q), fun t ht => ?_, fun t ht => ?_, List.mem_append_left _ h.yx, fun q => ?_, fun t ht tw ne u hu => ?_, fun t ht => ?_⟩
  · rcases List.mem_append.mp ht with q | q
    · exact List.mem_append_left _ (h.sub t q)
    · exact List.mem_append_right _ q
  · rcases List.mem_append.mp ht with q | q
    · exact h.ok t q
    · rw [List.mem_singleton.mp q]
      exact ⟨hU y (h.ok y h.yx).1 z mz, .step (h.ok y h.yx).2 mz⟩
  · rcases List.mem_append.mp q with q | q
    · exact h.yw q
    · exact hm ((List.mem_singleton.mp q) ▸ h.yx)
  · rcases List.mem_append.mp ht with q | q
    · exact List.mem_append_left _ (h.shut t q (fun m => tw (List.mem_append_left _ m)) ne u hu)
    · exact absurd (List.mem_append_right _ q) tw
  · have hlt := (List.getElem?_eq_some_iff.mp hz).1
    have hx := (List.getElem?_eq_some_iff.mp hz).2
    rw [List.take_succ_eq_append_getElem hlt, hx] at ht
    rcases List.mem_append.mp ht with q | q
    · exact List.mem_append_left _ (h.part t q)
    · exact List.mem_append_right _ q
theorem InvF.fin {α : Type} {nx : α → List α} {U : List α} {x y : α} {xs ws : List α} (h : InvF nx U x y (nx y).length xs ws) : InvR nx U x xs ws := by
  refine ⟨h.at_, h.nd, h.nw, h.sub, h.ok, fun z hz zw t ht => ?_⟩
  by_cases e : z = y
  · subst e
    exact h.part t (by rw [List.take_length]; exact ht)
  · exact h.shut z hz zw e t ht
theorem InvR.start {α : Type} {nx : α → List α} {U : List α} {x : α} (hx : x ∈ U) : InvR nx U x [x] [x] :=
  ⟨by simp, by simp, by simp, fun y hy => hy, fun y hy => by rw [List.mem_singleton.mp hy]; exact ⟨hx, .refl⟩, fun y hy hn => absurd hy hn⟩
end Gm

end
section
/-! modules: as the program asks; sorted by size; what hangs together -/
namespace Gm
open Gg
/-! ### what one comes to among some -/
theorem rt_rc {g : Graph} {p : Nat → Bool} {l : Row} (hl : ∀ u, u ∈ l ↔ u < g.length ∧ p u = true) (a b : Nat) : Rt (fun v => l.filter fun u => joined g v u) a b ↔ ∃ k, Rc g (Am g p) a k b := by
  constructor
  · intro r
    induction r with
    | refl => exact ⟨0, .zero⟩
    | step _ hz ih =>
      obtain ⟨k, rk⟩ := ih
      obtain ⟨h1, h2⟩ := List.mem_filter.mp hz
      exact ⟨k + 1, .step rk h2 ((hl _).mp h1)⟩
  · rintro ⟨k, r⟩
    induction r with
    | zero => exact .refl
    | step _ j d ih => exact .step ih (List.mem_filter.mpr ⟨(hl _).mpr d, j⟩)
/-- of a set that isn't empty: as many found as there are -/
theorem hangs_iff {g : Graph} {s : Nat} {xs : Row} (h0 : members g s ≠ []) (nd : xs.Nodup) (mem : ∀ y, y ∈ xs ↔ Rt (fun v => (members g s).filter fun u => joined g v u) ((members g s).getD 0 0) y) : decide (xs.length = (members g s).length) = hangs g s := by
  have ndm : (members g s).Nodup := List.nodup_range.filter _
  have mm : ∀ u, u ∈ members g s ↔ u < g.length ∧ isIn s u = true := fun u => mem_members
  unfold hangs
  cases e : members g s with
  | nil => exact absurd e h0
  | cons a r =>
    dsimp only
    rw [e] at mem ndm
    have ha : a < g.length ∧ isIn s a = true := (mm a).mp (by rw [e]; exact List.mem_cons_self)
    have mem' : ∀ y, y ∈ xs ↔ ∃ k, Rc g (Am g fun v => isIn s v) a k y := fun y => by
      rw [mem y]
      exact rt_rc (p := fun v => isIn s v) (fun u => by rw [← e]; exact mm u) a y
    have inb : ∀ y ∈ xs, y ∈ a :: r := fun y hy => by
      obtain ⟨k, rk⟩ := (mem' y).mp hy
      rw [← e, mm]
      cases rk with
      | zero => exact ha
      | step _ _ d => exact d
    rw [Bool.eq_iff_iff, decide_eq_true_eq, List.all_eq_true]
    constructor
    · intro hl b hb
      rw [comesA_iff ha.1]
      refine ⟨ha.2, (mem' b).mp ?_⟩
      exact nodup_full nd inb (by omega) b (List.mem_cons_of_mem _ hb)
    · intro h
      have sub : ∀ y ∈ a :: r, y ∈ xs := fun y hy => by
        rw [mem']
        rcases List.mem_cons.mp hy with z | z
        · rw [z]; exact ⟨0, .zero⟩
        · exact ((comesA_iff ha.1).mp (h y z)).2
      have h1 := nodup_le nd inb
      have h2 := nodup_le ndm sub
      omega
/-! ### modules -/
def modP (g : Graph) (s : Nat) : Bool := ((List.range g.length).filter fun v => !((List.range 8).filter fun u => s.testBit u).contains v).all fun v => [0, s].contains (g.getD v 0 &&& s)
theorem and_zero_iff (t s : Nat) : t &&& s = 0 ↔ ∀ v, s.testBit v = true → t.testBit v = false := by
  constructor
  · intro h v hv
    have := congrArg (fun x => x.testBit v) h
    simp only [Nat.testBit_and, Nat.zero_testBit, hv, Bool.and_true] at this
    exact this
  · intro h
    refine Nat.eq_of_testBit_eq fun v => ?_
    rw [Nat.testBit_and, Nat.zero_testBit]
    cases e : s.testBit v with
    | false => rw [Bool.and_false]
    | true => rw [h v e]; rfl
theorem modP_eq {g : Graph} (o : Ok g) {s : Nat} (hs : s < 2 ^ g.length) (h0 : s ≠ 0) : modP g s = isModule g s := by
  unfold modP isModule
  rw [members_eight o.le hs]
  have e0 : (s != 0) = true := bne_iff_ne.mpr h0
  rw [e0, Bool.true_and, Bool.eq_iff_iff, List.all_eq_true, List.all_eq_true]
  have key : ∀ v, v < g.length → ([0, s].contains (g.getD v 0 &&& s) = true ↔ even g (members g s) v = true) := fun v hv => by
    rw [List.contains_iff_mem, List.mem_cons, List.mem_singleton, even_iff, and_zero_iff, and_eq_iff, or_comm]
    have jn : ∀ u, (g.getD v 0).testBit u = joined g u v := fun u => by rw [o.sym']; rfl
    constructor
    · rintro (h | h)
      · exact .inl fun u hu => by rw [← jn]; exact h u (mem_members.mp hu).2
      · exact .inr fun u hu => by rw [← jn]; exact h u (mem_members.mp hu).2
    · rintro (h | h)
      · exact .inl fun u hu => by rw [jn]; exact h u (mem_members.mpr ⟨bit_lt hs hu, hu⟩)
      · exact .inr fun u hu => by rw [jn]; exact h u (mem_members.mpr ⟨bit_lt hs hu, hu⟩)
  constructor
  · intro h v hv
    have hv' := List.mem_range.mp hv
    rw [Bool.or_eq_true]
    by_cases q : isIn s v = true
    · exact .inl q
    · refine .inr ((key v hv').mp (h v (List.mem_filter.mpr ⟨hv, ?_⟩)))
      have : v ∉ members g s := fun z => q (mem_members.mp z).2
      simpa using this
  · intro h v hv
    obtain ⟨h1, h2⟩ := List.mem_filter.mp hv
    have hv' := List.mem_range.mp h1
    refine (key v hv').mpr ?_
    have := h v h1
    rw [Bool.or_eq_true] at this
    rcases this with z | z
    · have h2 : v ∉ members g s := by simpa using h2
      exact absurd (mem_members.mpr ⟨hv', z⟩) h2
    · exact z
def strongP (s : Nat) (l : List Nat) : Bool := l.all fun t => [0, s, t].contains (s &&& t)
theorem strongP_eq {g : Graph} {s : Nat} (hs : s < 2 ^ g.length) {l : List Nat} (hl : ∀ t ∈ l, t < 2 ^ g.length) : strongP s l = l.all fun t => !overlap g s t := by
  unfold strongP
  rw [Bool.eq_iff_iff, List.all_eq_true, List.all_eq_true]
  have key : ∀ t ∈ l, ([0, s, t].contains (s &&& t) = true ↔ (!overlap g s t) = true) := fun t ht => by
    have ht' := hl t ht
    have nn : ∀ q : Nat → Bool, (nodes g).any q = false ↔ ∀ v, v < g.length → q v = false := fun q => by
      unfold nodes
      rw [List.any_eq_false]
      simp only [List.mem_range, Bool.not_eq_true]
    unfold overlap
    rw [Bool.not_eq_true', Bool.and_eq_false_iff, Bool.and_eq_false_iff, nn, nn, nn, List.contains_iff_mem, List.mem_cons, List.mem_cons, List.mem_singleton, and_zero_iff]
    have c1 : s &&& t = s ↔ ∀ v, v < g.length → (isIn s v && !isIn t v) = false := by
      rw [Nat.and_comm, and_eq_iff]
      constructor
      · intro h v _
        unfold isIn
        cases e : s.testBit v with
        | false => rfl
        | true => rw [h v e]; rfl
      · intro h v hv
        have := h v (bit_lt hs hv)
        unfold isIn at this
        rw [hv] at this
        simpa using this
    have c2 : s &&& t = t ↔ ∀ v, v < g.length → (isIn t v && !isIn s v) = false := by
      rw [and_eq_iff]
      constructor
      · intro h v _
        unfold isIn
        cases e : t.testBit v with
        | false => rfl
        | true => rw [h v e]; rfl
      · intro h v hv
        have := h v (bit_lt ht' hv)
        unfold isIn at this
        rw [hv] at this
        simpa using this
    have c0 : (∀ v, t.testBit v = true → s.testBit v = false) ↔ ∀ v, v < g.length → (isIn s v && isIn t v) = false := by
      constructor
      · intro h v _
        unfold isIn
        cases e : t.testBit v with
        | false => rw [Bool.and_false]
        | true => rw [h v e]; rfl
      · intro h v hv
        have := h v (bit_lt ht' hv)
        unfold isIn at this
        rw [hv] at this
        simpa using this
    rw [c0, c1, c2]
  exact ⟨fun h t ht => (key t ht).mp (h t ht), fun h t ht => (key t ht).mpr (h t ht)⟩
/-! ### sorted by a key, those alike as they were -/
theorem sorted_part {κ : Nat → Nat} {B : Nat} : ∀ {l : List Nat}, l.Pairwise (fun a b => κ a ≤ κ b) → (∀ v ∈ l, κ v ≤ B) → l = (l.filter fun v => decide (κ v < B)) ++ l.filter fun v => κ v == B
  | [], _, _ => rfl
  | x :: l, hp, hb => by
    have hp' := List.pairwise_cons.mp hp
    have ih := sorted_part hp'.2 fun v hv => hb v (List.mem_cons_of_mem _ hv)
    have hx := hb x List.mem_cons_self
    by_cases e : κ x < B
    · rw [List.filter_cons_of_pos (by simpa using e), List.filter_cons_of_neg (by simp; omega), List.cons_append, ← ih]
    · have ex : κ x = B := by omega
      have all : ∀ v ∈ l, κ v = B := fun v hv => by
        have := hp'.1 v hv
        have := hb v (List.mem_cons_of_mem _ hv)
        omega
      have n1 : l.filter (fun v => decide (κ v < B)) = [] := by
        rw [List.filter_eq_nil_iff]
        intro v hv
        rw [all v hv]; simp
      have n2 : l.filter (fun v => κ v == B) = l := by
        rw [List.filter_eq_self]
        intro v hv
        rw [all v hv]; simp
      rw [List.filter_cons_of_neg (by simpa using e), List.filter_cons_of_pos (by rw [ex]; simp), n1, n2]
      rfl
theorem sorted_flat {κ : Nat → Nat} : ∀ (B : Nat) {l : List Nat}, l.Pairwise (fun a b => κ a ≤ κ b) → (∀ v ∈ l, κ v < B) → l = (List.range B).flatMap fun c => l.filter fun v => κ v == c
  | 0, l, _, hb => by
    cases l with
    | nil => rfl
    | cons x l => exact absurd (hb x List.mem_cons_self) (Nat.not_lt_zero _)
  | B + 1, l, hp, hb => by
    have h1 := sorted_part (κ := κ) (B := B) hp fun v hv => by have := hb v hv; omega
    have ih := sorted_flat B (l := l.filter fun v => decide (κ v < B)) (hp.filter _) fun v hv => by simpa using (List.mem_filter.mp hv).2
    rw [List.range_succ, List.flatMap_append, List.flatMap_singleton]
    conv => lhs; rw [h1]
    congr 1
    rw [ih]
    have : ∀ c ∈ List.range B, (l.filter fun v => decide (κ v < B)).filter (fun v => κ v == c) = l.filter fun v => κ v == c := fun c hc => by
      rw [List.filter_filter]
      refine List.filter_congr fun v _ => ?_
      have := List.mem_range.mp hc
      by_cases z : κ v = c
      · rw [z]; simp; omega
      · rw [beq_eq_false_iff_ne.mpr z, Bool.false_and]
    exact flatMap_congr' this
where
  flatMap_congr' {α β : Type} : ∀ {l : List α} {f g : α → List β}, (∀ x ∈ l, f x = g x) → l.flatMap f = l.flatMap g
  | [], _, _, _ => rfl
  | x :: l, f, g, h => by
    rw [List.flatMap_cons, List.flatMap_cons, h x List.mem_cons_self, flatMap_congr' fun y hy => h y (List.mem_cons_of_mem _ hy)]
def sortBy (κ : Nat → Nat) (B : Nat) (l : List Nat) : List Nat := (List.range B).flatMap fun c => l.filter fun v => κ v == c
theorem sortBy_len {κ : Nat → Nat} : ∀ (B : Nat) (l : List Nat), (sortBy κ B l).length ≤ l.length
  | 0, l => Nat.zero_le _
  | B + 1, l => by
    unfold sortBy
    rw [List.range_succ, List.flatMap_append, List.flatMap_singleton, List.length_append]
    -- by the parts
    have h1 := sortBy_len (κ := κ) B (l.filter fun v => decide (κ v < B))
    have e : sortBy κ B (l.filter fun v => decide (κ v < B)) = (List.range B).flatMap fun c => l.filter fun v => κ v == c := by
      unfold sortBy
      refine sorted_flat.flatMap_congr' fun c hc => ?_
      rw [List.filter_filter]
      refine List.filter_congr fun v _ => ?_
      have := List.mem_range.mp hc
      by_cases z : κ v = c
      · rw [z]; simp; omega
      · rw [beq_eq_false_iff_ne.mpr z, Bool.false_and]
    rw [← e]
    have h2 : (l.filter fun v => decide (κ v < B)).length + (l.filter fun v => κ v == B).length ≤ l.length := by
      induction l with
      | nil => exact Nat.le_refl _
      | cons x l ih =>
        have := ih (sortBy_len B _) (by
          unfold sortBy
          refine sorted_flat.flatMap_congr' fun c hc => ?_
          rw [List.filter_filter]
          refine List.filter_congr fun v _ => ?_
          have := List.mem_range.mp hc
          by_cases z : κ v = c
          · rw [z]; simp; omega
          · rw [beq_eq_false_iff_ne.mpr z, Bool.false_and])
        rw [List.filter_cons, List.filter_cons]
        by_cases a : κ x < B
        · rw [if_pos (by simpa using a), if_neg (by simp; omega), List.length_cons, List.length_cons]; omega
        · rw [if_neg (by simpa using a)]
          by_cases b : κ x = B
          · rw [if_pos (by simpa using b), List.length_cons, List.length_cons]; omega
          · rw [if_neg (by simpa using b), List.length_cons]; omega
    omega
/-! ### all of it -/
def evL (g : Graph) : List Nat := ((List.range (2 ^ g.length - 1)).map (fun i => 1 + i)).filter (modP g)
def stL (g : Graph) : List Nat := (evL g).filter fun s => decide (1 < ((List.range 8).filter fun v => s.testBit v).length) && strongP s (evL g)
theorem evL_eq {g : Graph} (o : Ok g) : evL g = modules g := by
  unfold evL modules sets
  have pp := Nat.two_pow_pos g.length
  have e : List.range (2 ^ g.length) = 0 :: (List.range (2 ^ g.length - 1)).map (fun i => 1 + i) := by
    obtain ⟨n, hn⟩ : ∃ n, 2 ^ g.length = n + 1 := ⟨2 ^ g.length - 1, by omega⟩
    rw [hn, List.range_succ_eq_map]
    congr 1
    refine List.map_congr_left fun i _ => ?_
    show i + 1 = 1 + i
    omega
  rw [e, List.filter_cons_of_neg (by unfold isModule; simp)]
  refine List.filter_congr fun s hs => ?_
  obtain ⟨i, hi, rfl⟩ := List.mem_map.mp hs
  have := List.mem_range.mp hi
  exact modP_eq o (by omega) (by omega)
theorem evL_lt {g : Graph} {s : Nat} (h : s ∈ evL g) : s < 2 ^ g.length ∧ s ≠ 0 := by
  obtain ⟨i, hi, rfl⟩ := List.mem_map.mp (List.mem_filter.mp h).1
  have := List.mem_range.mp hi
  have pp := Nat.two_pow_pos g.length
  omega
def sz8 (s : Nat) : Nat := ((List.range 8).filter fun v => s.testBit v).length
theorem sz8_eq {g : Graph} (o : Ok g) {s : Nat} (hs : s < 2 ^ g.length) : sz8 s = size g s := by
  unfold sz8 size
  rw [members_eight o.le hs]
theorem strong_eq {g : Graph} (o : Ok g) : sortBy sz8 9 (stL g) = strong g := by
  have hs : stL g = (modules g).filter fun s => decide (2 ≤ size g s) && (modules g).all fun t => !overlap g s t := by
    unfold stL
    rw [evL_eq o]
    refine List.filter_congr fun s hs => ?_
    rw [← evL_eq o] at hs
    have hl := (evL_lt hs).1
    rw [strongP_eq hl (fun t ht => by rw [← evL_eq o] at ht; exact (evL_lt ht).1)]
    congr 1
    have := sz8_eq o hl
    unfold sz8 at this
    rw [this]
    exact decide_eq_decide.mpr (by omega)
  unfold strong
  dsimp only
  rw [← hs]
  have hsz : ∀ s ∈ stL g, sz8 s = size g s := fun s h => sz8_eq o (evL_lt (List.mem_filter.mp h).1).1
  unfold sortBy
  -- no set is greater than all
  have cut : ∀ (d : Nat), (List.range (g.length + 1 + d)).flatMap (fun c => (stL g).filter fun v => sz8 v == c) = (List.range (g.length + 1)).flatMap (fun c => (stL g).filter fun v => sz8 v == c) := by
    intro d
    induction d with
    | zero => rfl
    | succ d ih =>
      rw [show g.length + 1 + (d + 1) = (g.length + 1 + d) + 1 from rfl, List.range_succ, List.flatMap_append, ih, List.flatMap_singleton]
      have : (stL g).filter (fun v => sz8 v == g.length + 1 + d) = [] := by
        rw [List.filter_eq_nil_iff]
        intro v hv z
        have z := beq_iff_eq.mp z
        rw [hsz v hv] at z
        have := size_lt (g := g) (s := v)
        omega
      rw [this, List.append_nil]
  have h9 : 9 = g.length + 1 + (8 - g.length) := by have := o.le; omega
  rw [h9, cut]
  refine sorted_flat.flatMap_congr' fun c _ => List.filter_congr fun v hv => by rw [hsz v hv]
theorem modules_eq (ns : List Int) : PyWrgood.modules ns = if isGraph (WrgoodNeutral.graph ns) = true then 0 :: ((strong (WrgoodNeutral.graph ns)).length : Int) :: ((strong (WrgoodNeutral.graph ns)).map (fun (k : Nat) => (k : Int)) ++ ((strong (WrgoodNeutral.graph ns)).map (fun s => Gg.kind (WrgoodNeutral.graph ns) s)).map (fun (k : Nat) => (k : Int))) else [-1] := by
  show WrgoodNeutral.told (if isGraph (WrgoodNeutral.graph ns) = true then Wrgood.Answer.modules (strong (WrgoodNeutral.graph ns)) ((strong (WrgoodNeutral.graph ns)).map (fun (s : Nat) => Gg.kind (WrgoodNeutral.graph ns) s)) else .no (-1)) = _
  by_cases h : isGraph (WrgoodNeutral.graph ns) = true
  · rw [if_pos h, if_pos h]; rfl
  · rw [if_neg h, if_neg h]; rfl
end Gm

end
section
/-! intervals: one clique behind the other -/
namespace Gm
open Gg
theorem cnt_more2 {p q : Nat → Bool} {n v : Nat} (hv : v < n) (h : ∀ u, p u = true → q u = true) (h1 : p v = false) (h2 : q v = true) : ((List.range n).filter p).length < ((List.range n).filter q).length := by
  induction n with
  | zero => omega
  | succ n ih =>
    rw [List.range_succ, List.filter_append, List.filter_append, List.length_append, List.length_append]
    have mono : ((List.range n).filter p).length ≤ ((List.range n).filter q).length := by
      have e : (List.range n).filter p = ((List.range n).filter q).filter p := by
        rw [List.filter_filter]
        refine List.filter_congr fun u _ => ?_
        cases z : p u with
        | true => rw [h u z]; rfl
        | false => simp
      rw [e]
      exact List.length_filter_le _ _
    by_cases e : v = n
    · subst e
      have a1 : ([v].filter p).length = 0 := by rw [List.filter_cons_of_neg (by rw [h1]; decide)]; rfl
      have a2 : ([v].filter q).length = 1 := by rw [List.filter_cons_of_pos h2]; rfl
      omega
    · have := ih (by omega)
      have a : ([n].filter p).length ≤ ([n].filter q).length := by
        cases z : p n with
        | true => rw [List.filter_cons_of_pos z, List.filter_cons_of_pos (h n z)]; exact Nat.le_refl _
        | false => rw [List.filter_cons_of_neg (by rw [z]; decide)]; exact Nat.zero_le _
      omega
theorem take_all {p : Nat → Bool} : ∀ {l : List Nat} {x : Nat}, x ∈ l.takeWhile p → p x = true
  | [], _, h => by cases h
  | y :: l, x, h => by
    rw [List.takeWhile_cons] at h
    split at h
    · rename_i hy
      rcases List.mem_cons.mp h with z | z
      · rw [z]; exact hy
      · exact take_all z
    · cases h
theorem clique_sup {g : Graph} (o : Ok g) : ∀ (m : Nat) {s : Nat}, g.length - size g s = m → s < 2 ^ g.length → isClique g s = true → ∃ t ∈ cliques g, ∀ w, s.testBit w = true → t.testBit w = true
  | m, s, hm, hs, hc => by
    by_cases hmax : ((nodes g).all fun v => isIn s v || !(members g s).all fun u => joined g u v) = true
    · refine ⟨s, ?_, fun w hw => hw⟩
      unfold cliques
      rw [List.mem_filter]
      exact ⟨mem_sets.mpr hs, by rw [hc, hmax]; rfl⟩
    · have hmax : ¬ ∀ v ∈ nodes g, (isIn s v || !(members g s).all fun u => joined g u v) = true := fun z => hmax (List.all_eq_true.mpr z)
      obtain ⟨v, hv⟩ := Classical.not_forall.mp hmax
      obtain ⟨hvm, hv⟩ := Classical.not_imp.mp hv
      have hvl : v < g.length := List.mem_range.mp hvm
      rw [Bool.not_eq_true, Bool.or_eq_false_iff, Bool.not_eq_false'] at hv
      obtain ⟨hv1, hv2⟩ := hv
      have hj : ∀ u ∈ members g s, joined g u v = true := List.all_eq_true.mp hv2
      -- s with v
      have ht : s ||| 2 ^ v < 2 ^ g.length := Nat.or_lt_two_pow hs (Nat.pow_lt_pow_right (by decide) hvl)
      have mem : ∀ u, u ∈ members g (s ||| 2 ^ v) ↔ u ∈ members g s ∨ u = v := fun u => by
        rw [mem_members, mem_members, Nat.testBit_or, Nat.testBit_two_pow, Bool.or_eq_true, decide_eq_true_eq]
        constructor
        · rintro ⟨h1, h2 | h2⟩
          · exact .inl ⟨h1, h2⟩
          · exact .inr h2.symm
        · rintro (⟨h1, h2⟩ | rfl)
          · exact ⟨h1, .inl h2⟩
          · exact ⟨hvl, .inr rfl⟩
      have hct : isClique g (s ||| 2 ^ v) = true := by
        unfold isClique at hc ⊢
        rw [Bool.and_eq_true] at hc ⊢
        refine ⟨?_, ?_⟩
        · rw [bne_iff_ne]
          intro z
          have h0 : s ≠ 0 := bne_iff_ne.mp hc.1
          have := Nat.left_le_or (n := s) (m := 2 ^ v)
          omega
        · rw [List.all_eq_true]
          intro a ha
          rw [List.all_eq_true]
          intro b hb
          rcases (mem a).mp ha with xa | xa
          · rcases (mem b).mp hb with xb | xb
            · exact List.all_eq_true.mp (List.all_eq_true.mp hc.2 a xa) b xb
            · rw [xb, hj a xa]; simp
          · rcases (mem b).mp hb with xb | xb
            · rw [xa, o.sym' v b, hj b xb]; simp
            · rw [xa, xb]; simp
      have hsz : size g s < size g (s ||| 2 ^ v) := by
        unfold size members
        have h1 := cnt_more2 (p := fun u => isIn s u) (q := fun u => isIn (s ||| 2 ^ v) u) (n := g.length) hvl (fun u hu => by
          unfold isIn at hu ⊢
          rw [Nat.testBit_or, hu]; rfl) hv1 (by unfold isIn; rw [Nat.testBit_or, Nat.testBit_two_pow]; simp)
        exact h1
      have hle : size g (s ||| 2 ^ v) ≤ g.length := by
        unfold size members nodes
        have := List.length_filter_le (fun u => isIn (s ||| 2 ^ v) u) (List.range g.length)
        rw [List.length_range] at this
        exact this
      obtain ⟨t, h1, h2⟩ := clique_sup o (g.length - size g (s ||| 2 ^ v)) rfl ht hct
      exact ⟨t, h1, fun w hw => h2 w (by rw [Nat.testBit_or, hw]; rfl)⟩
termination_by m => m
decreasing_by omega
theorem clique_of {g : Graph} (o : Ok g) {v : Nat} (hv : v < g.length) : ∃ t ∈ cliques g, t.testBit v = true := by
  have b : ∀ w, (2 ^ v).testBit w = true ↔ w = v := fun w => by
    rw [Nat.testBit_two_pow, decide_eq_true_eq]
    exact ⟨fun h => h.symm, fun h => h.symm⟩
  have hlt : 2 ^ v < 2 ^ g.length := Nat.pow_lt_pow_right (by decide) hv
  have hc : isClique g (2 ^ v) = true := by
    unfold isClique
    rw [Bool.and_eq_true]
    refine ⟨by rw [bne_iff_ne]; exact Nat.ne_of_gt (Nat.two_pow_pos v), ?_⟩
    rw [List.all_eq_true]
    intro a ha
    rw [List.all_eq_true]
    intro c hc
    rw [(b a).mp (mem_members.mp ha).2, (b c).mp (mem_members.mp hc).2]
    simp
  obtain ⟨t, h1, h2⟩ := clique_sup o _ rfl hlt hc
  exact ⟨t, h1, h2 v ((b v).mpr rfl)⟩
/-! ### what has ended -/
theorem sub_bits (l c v : Nat) : (l - (l &&& c)).testBit v = (l.testBit v && !c.testBit v) := by
  have hd : ∀ w, (l &&& c).testBit w = true → (l ^^^ (l &&& c)).testBit w = false := fun w hw => by
    rw [Nat.testBit_xor, hw]
    rw [Nat.testBit_and, Bool.and_eq_true] at hw
    rw [hw.1]; rfl
  have e := or_add (l &&& c) (l &&& c) (l ^^^ (l &&& c)) (Nat.le_refl _) hd
  have e2 : (l &&& c) ||| (l ^^^ (l &&& c)) = l := by
    refine Nat.eq_of_testBit_eq fun w => ?_
    rw [Nat.testBit_or, Nat.testBit_xor, Nat.testBit_and]
    cases l.testBit w <;> cases c.testBit w <;> rfl
  rw [e2] at e
  have e3 : l - (l &&& c) = l ^^^ (l &&& c) := by omega
  rw [e3, Nat.testBit_xor, Nat.testBit_and]
  cases l.testBit v <;> cases c.testBit v <;> rfl
def endN (r : Row) (c : Nat) : Nat := if r.isEmpty = true then 0 else r.getLastD 0 - (r.getLastD 0 &&& c)
def followP (G : List Nat) (r : Row) (c : Nat) : Bool := !r.contains c && !((G.filter fun o => !r.contains o).any fun o => !decide (endN r c &&& o = 0))
theorem followP_iff {G : List Nat} {r : Row} {c : Nat} : followP G r c = true ↔ c ∉ r ∧ ∀ b v, r.getLast? = some b → b.testBit v = true → c.testBit v = false → ∀ o ∈ G, o ∉ r → o.testBit v = false := by
  have eb : ∀ v, (endN r c).testBit v = true ↔ ∃ b, r.getLast? = some b ∧ b.testBit v = true ∧ c.testBit v = false := fun v => by
    unfold endN
    cases r with
    | nil => simp
    | cons x y =>
      rw [if_neg (by simp), sub_bits, Bool.and_eq_true, List.getLastD_eq_getLast?]
      constructor
      · intro h
        refine ⟨(x :: y).getLast (by simp), List.getLast?_eq_some_getLast (by simp), ?_, by simpa using h.2⟩
        have := h.1
        rw [List.getLast?_eq_some_getLast (by simp)] at this
        exact this
      · rintro ⟨b, h1, h2, h3⟩
        rw [h1]
        exact ⟨h2, by rw [h3]; rfl⟩
  unfold followP
  rw [Bool.and_eq_true]
  refine and_congr (by simp) ?_
  rw [Bool.not_eq_true', List.any_eq_false]
  constructor
  · intro h b v h1 h2 h3 o ho hn
    have := h o (List.mem_filter.mpr ⟨ho, by simpa using hn⟩)
    have this : endN r c &&& o = 0 := by simpa using this
    rw [Nat.and_comm, and_zero_iff] at this
    exact this v ((eb v).mpr ⟨b, h1, h2, h3⟩)
  · intro h o ho
    obtain ⟨h1, h2⟩ := List.mem_filter.mp ho
    have h2 : o ∉ r := by simpa using h2
    have : endN r c &&& o = 0 := by
      rw [Nat.and_comm, and_zero_iff]
      intro v hv
      obtain ⟨b, q1, q2, q3⟩ := (eb v).mp hv
      exact h b v q1 q2 q3 o h1 h2
    simpa using this
/-! ### rows of all of them -/
def sbsP (g : Graph) (r : Row) (c : Nat) : Bool := !r.contains c && sideBySide g (r ++ [c])
theorem lineUp_dfs {g : Graph} {all : List Nat} : ∀ (f : Nat) (r : Row), r.length + f = all.length → dfs (sbsP g) all all.length f r = lineUp g all (f + 1) r
  | 0, r, hl => by
    show (if r.length = all.length then some r else none) = (if r.length = all.length then some r else _)
    rw [if_pos (by omega), if_pos (by omega)]
  | f + 1, r, hl => by
    show (if r.length = all.length then some r else all.findSome? fun c => if sbsP g r c = true then dfs (sbsP g) all all.length f (r ++ [c]) else none) = (if r.length = all.length then some r else all.findSome? fun s => if (!r.contains s && sideBySide g (r ++ [s])) = true then lineUp g all (f + 1) (r ++ [s]) else none)
    rw [if_neg (by omega), if_neg (by omega)]
    congr 1
    funext c
    rw [lineUp_dfs f (r ++ [c]) (by rw [List.length_append]; show r.length + 1 + f = _; omega)]
    rfl
theorem rfc_mem {ch : List Nat} : ∀ {f : Nat} {r R : Row}, R ∈ rfc ch f r → ∀ x ∈ R, x ∈ r ∨ x ∈ ch
  | 0, r, R, h, x, hx => by
    rw [List.mem_singleton.mp h] at hx
    exact .inl hx
  | f + 1, r, R, h, x, hx => by
    obtain ⟨v, hv, hR⟩ := List.mem_flatMap.mp h
    rcases rfc_mem hR x hx with z | z
    · rcases List.mem_append.mp z with y | y
      · exact .inl y
      · rw [List.mem_singleton.mp y]; exact .inr hv
    · exact .inr z
theorem node_at {R : Row} {i : Nat} (h : i < R.length) : node R i = R[i] := by
  unfold node
  rw [List.getD_eq_getElem?_getD, List.getElem?_eq_getElem h]; rfl
theorem nodup_of {R : Row} (h : ∀ i, i < R.length → node R i ∉ R.take i) : R.Nodup := by
  rw [List.Nodup, List.pairwise_iff_getElem]
  intro i j hi hj hij e
  refine h j hj ?_
  rw [node_at hj, ← e]
  have : (R.take j)[i]'(by rw [List.length_take]; omega) = R[i] := by rw [List.getElem_take]
  rw [← this]
  exact List.getElem_mem _
/-- each node's cliques in one stretch -/
theorem stretch {g : Graph} {R : Row} (h : sideBySide g R = true) {v : Nat} (hv : v < g.length) : ∃ A B E, R = A ++ B ++ E ∧ A = R.takeWhile (fun s => !isIn s v) ∧ (∀ s ∈ A, s.testBit v = false) ∧ (∀ s ∈ B, s.testBit v = true) ∧ ∀ s ∈ E, s.testBit v = false := by
  have hm := List.all_eq_true.mp h v (List.mem_range.mpr hv)
  dsimp only at hm
  rw [List.all_eq_true] at hm
  refine ⟨R.takeWhile (fun s => !isIn s v), (R.dropWhile fun s => !isIn s v).takeWhile (fun s => isIn s v), (R.dropWhile fun s => !isIn s v).dropWhile (fun s => isIn s v), ?_, rfl, fun s hs => ?_, fun s hs => ?_, fun s hs => ?_⟩
  · rw [List.append_assoc, List.takeWhile_append_dropWhile, List.takeWhile_append_dropWhile]
  · have := take_all hs
    simpa [isIn] using this
  · have := take_all hs
    simpa [isIn] using this
  · have := hm s hs
    simpa [isIn] using this
theorem stretch_at {A B E : Row} {v : Nat} (hA : ∀ s ∈ A, s.testBit v = false) (hB : ∀ s ∈ B, s.testBit v = true) (hE : ∀ s ∈ E, s.testBit v = false) {j : Nat} (hj : j < (A ++ B ++ E).length) : (node (A ++ B ++ E) j).testBit v = (decide (A.length ≤ j) && decide (j < A.length + B.length)) := by
  rw [node_at hj]
  by_cases h1 : j < A.length
  · have : (A ++ B ++ E)[j] = A[j] := by rw [List.getElem_append_left (by rw [List.length_append]; omega), List.getElem_append_left h1]
    rw [this, hA _ (List.getElem_mem _), decide_eq_false (by omega)]; rfl
  · by_cases h2 : j < A.length + B.length
    · have : (A ++ B ++ E)[j] = B[j - A.length]'(by omega) := by rw [List.getElem_append_left (by rw [List.length_append]; omega), List.getElem_append_right (by omega)]
      rw [this, hB _ (List.getElem_mem _), decide_eq_true (by omega), decide_eq_true h2]; rfl
    · have hj' := hj
      rw [List.length_append, List.length_append] at hj'
      have : (A ++ B ++ E)[j] = E[j - (A ++ B).length]'(by rw [List.length_append]; omega) := by rw [List.getElem_append_right (by rw [List.length_append]; omega)]
      rw [this, hE _ (List.getElem_mem _), decide_eq_false h2, Bool.and_false]
theorem last_take {R : Row} {i : Nat} (h0 : 0 < i) (hi : i ≤ R.length) : (R.take i).getLast? = some (node R (i - 1)) := by
  rw [List.getLast?_eq_getElem?, List.length_take, Nat.min_eq_left hi, List.getElem?_take_of_lt (by omega), node_at (by omega), List.getElem?_eq_getElem (by omega)]
theorem mem_take {R : Row} {i : Nat} {x : Nat} (hi : i ≤ R.length) : x ∈ R.take i ↔ ∃ j, j < i ∧ node R j = x := by
  constructor
  · intro h
    obtain ⟨j, hj, e⟩ := List.getElem_of_mem h
    rw [List.length_take] at hj
    refine ⟨j, by omega, ?_⟩
    rw [node_at (by omega), ← e, List.getElem_take]
  · rintro ⟨j, hj, rfl⟩
    rw [node_at (by omega)]
    have : (R.take i)[j]'(by rw [List.length_take]; omega) = R[j] := by rw [List.getElem_take]
    rw [← this]
    exact List.getElem_mem _
theorem nodup_inj {R : Row} (nd : R.Nodup) {i j : Nat} (hi : i < R.length) (hj : j < R.length) (e : node R i = node R j) : i = j := by
  rw [node_at hi, node_at hj] at e
  exact (List.getElem_inj nd).mp e
theorem same_rows {g : Graph} {all R : Row} (na : all.Nodup) (lt : ∀ s ∈ all, s < 2 ^ g.length) (hl : R.length = all.length) (sub : ∀ x ∈ R, x ∈ all) : okF (followP all) all.length 0 R = okF (sbsP g) all.length 0 R := by
  unfold okF
  refine decide_eq_decide.mpr ⟨fun h => ?_, fun h => ?_⟩
  · -- they follow one another
    have hf : ∀ i, i < R.length → node R i ∉ R.take i ∧ ∀ b v, (R.take i).getLast? = some b → b.testBit v = true → (node R i).testBit v = false → ∀ o ∈ all, o ∉ R.take i → o.testBit v = false := fun i hi => followP_iff.mp (h i (by omega) (Nat.zero_le _))
    have nd : R.Nodup := nodup_of fun i hi => (hf i hi).1
    -- what has ended doesn't come again
    have gone : ∀ v d j, j + 1 + d < R.length → (node R j).testBit v = true → (node R (j + 1)).testBit v = false → (node R (j + 1 + d)).testBit v = false := fun v d j hd h1 h2 => by
      refine (hf (j + 1) (by omega)).2 (node R j) v (last_take (by omega) (by omega)) h1 h2 _ (sub _ (by rw [node_at hd]; exact List.getElem_mem _)) fun z => ?_
      obtain ⟨j', hj', e⟩ := (mem_take (by omega)).mp z
      have := nodup_inj nd (by omega) hd e
      omega
    have csc : ∀ i, i ≤ R.length → Csc (R.take i) := fun i => by
      induction i with
      | zero => intro _; exact .nil
      | succ i ih =>
        intro hi
        rw [List.take_succ_eq_append_getElem (by omega)]
        refine .snoc (ih (by omega)) fun v hv => ?_
        rw [← node_at (by omega)] at hv
        by_cases z : ∃ s ∈ R.take i, s.testBit v = true
        · left
          obtain ⟨s, hs, sv⟩ := z
          obtain ⟨j, hj, rfl⟩ := (mem_take (by omega)).mp hs
          -- all between have it
          have up : ∀ d, j + d < i → (node R (j + d)).testBit v = true := fun d => by
            induction d with
            | zero => intro _; exact sv
            | succ d ih2 =>
              intro hd
              cases e : (node R (j + (d + 1))).testBit v with
              | true => rfl
              | false =>
                have := gone v (i - (j + d + 1)) (j + d) (by omega) (ih2 (by omega)) e
                rw [show j + d + 1 + (i - (j + d + 1)) = i by omega, hv] at this
                cases this
          refine ⟨node R (i - 1), last_take (by omega) (by omega), ?_⟩
          have := up (i - 1 - j) (by omega)
          rw [show j + (i - 1 - j) = i - 1 by omega] at this
          exact this
        · right
          intro s hs
          cases e : s.testBit v with
          | false => rfl
          | true => exact absurd ⟨s, hs, e⟩ z
    intro i hi _
    unfold sbsP
    rw [Bool.and_eq_true]
    refine ⟨by simpa using (hf i (by omega)).1, ?_⟩
    have e : R.take i ++ [node R i] = R.take (i + 1) := by rw [List.take_succ_eq_append_getElem (by omega), node_at (by omega)]
    rw [e]
    exact sideBySide_of (csc (i + 1) (by omega))
  · -- they stand side by side
    have hs : ∀ i, i < R.length → node R i ∉ R.take i ∧ sideBySide g (R.take (i + 1)) = true := fun i hi => by
      have := h i (by omega) (Nat.zero_le _)
      unfold sbsP at this
      rw [Bool.and_eq_true] at this
      refine ⟨by simpa using this.1, ?_⟩
      have e : R.take i ++ [node R i] = R.take (i + 1) := by rw [List.take_succ_eq_append_getElem hi, node_at hi]
      rw [← e]
      exact this.2
    have nd : R.Nodup := nodup_of fun i hi => (hs i hi).1
    have full : ∀ o ∈ all, o ∈ R := nodup_full nd sub (by omega)
    intro i hi _
    refine followP_iff.mpr ⟨(hs i (by omega)).1, fun b v hb bv cv o ho no => ?_⟩
    have i0 : 0 < i := by
      cases i with
      | zero => simp at hb
      | succ i => omega
    rw [last_take i0 (by omega)] at hb
    have eb : node R (i - 1) = b := Option.some.inj hb
    rw [← eb] at bv
    obtain ⟨j, hj, ej⟩ := List.getElem_of_mem (full o ho)
    have ej' : node R j = o := by rw [node_at hj]; exact ej
    have ji : i ≤ j := by
      rcases Nat.lt_or_ge j i with z | z
      · exact absurd ((mem_take (by omega)).mpr ⟨j, z, ej'⟩) no
      · exact z
    cases e : o.testBit v with
    | false => rfl
    | true =>
      exfalso
      have hvl : v < g.length := bit_lt (lt o ho) e
      have hR := (hs (R.length - 1) (by omega)).2
      rw [show R.length - 1 + 1 = R.length by omega, List.take_length] at hR
      obtain ⟨A, B, E, eR, _, hA, hB, hE⟩ := stretch hR hvl
      have at_ : ∀ j, j < R.length → (node R j).testBit v = (decide (A.length ≤ j) && decide (j < A.length + B.length)) := fun j hj => by
        have := stretch_at hA hB hE (j := j) (by rw [← eR]; exact hj)
        rw [← eR] at this
        exact this
      rw [at_ (i - 1) (by omega), Bool.and_eq_true, decide_eq_true_eq, decide_eq_true_eq] at bv
      rw [← ej', at_ j hj, Bool.and_eq_true, decide_eq_true_eq, decide_eq_true_eq] at e
      rw [at_ i (by omega), decide_eq_true (by omega), decide_eq_true (by omega)] at cv
      cases cv
theorem lined_dfs {g : Graph} : dfs (followP (cliques g)) (cliques g) (cliques g).length (cliques g).length [] = lined g := by
  have lt : ∀ s ∈ cliques g, s < 2 ^ g.length := fun s hs => mem_sets.mp (List.mem_filter.mp hs).1
  unfold lined
  rw [← lineUp_dfs (cliques g).length [] (by simp), dfs_rfc _ _ [] (by simp), dfs_rfc _ _ [] (by simp)]
  refine find_congr fun R hR => ?_
  have h1 := (rfc_pre hR).2
  exact same_rows (cliques_nodup g) lt (by simpa using h1) fun x hx => (rfc_mem hR x hx).resolve_left (by simp)
/-- the places of a node -/
def places (R : Row) (v : Nat) : Row := (List.range R.length).filter fun j => (node R j).testBit v
theorem lined_facts {g : Graph} (o : Ok g) {R : Row} (h : lined g = some R) : R.length = (cliques g).length ∧ (∀ s ∈ R, s ∈ cliques g) ∧ ∀ v, v < g.length → places R v ≠ [] ∧ [(places R v).getD 0 0, (places R v).getLastD 0] = [(R.takeWhile fun s => !isIn s v).length, (R.takeWhile fun s => !isIn s v).length + (R.filter fun s => isIn s v).length - 1] := by
  have lt : ∀ s ∈ cliques g, s < 2 ^ g.length := fun s hs => mem_sets.mp (List.mem_filter.mp hs).1
  have hd := lineUp_dfs (g := g) (all := cliques g) (cliques g).length [] (by simp)
  rw [dfs_rfc _ _ [] (by simp)] at hd
  have hf : (rfc (cliques g) (cliques g).length []).find? (okF (sbsP g) (cliques g).length 0) = some R := by
    unfold lined at h
    rw [← h]
    exact hd
  have hm := List.mem_of_find?_eq_some hf
  have ok0 : okF (sbsP g) (cliques g).length 0 R = true := List.find?_some hf
  have ok := of_decide_eq_true ok0
  have hl : R.length = (cliques g).length := by simpa using (rfc_pre hm).2
  have sub : ∀ s ∈ R, s ∈ cliques g := fun x hx => (rfc_mem hm x hx).resolve_left (by simp)
  have hs : ∀ i, i < R.length → node R i ∉ R.take i ∧ sideBySide g (R.take (i + 1)) = true := fun i hi => by
    have := ok i (by omega) (Nat.zero_le _)
    unfold sbsP at this
    rw [Bool.and_eq_true] at this
    refine ⟨by simpa using this.1, ?_⟩
    have e : R.take i ++ [node R i] = R.take (i + 1) := by rw [List.take_succ_eq_append_getElem hi, node_at hi]
    rw [← e]
    exact this.2
  have nd : R.Nodup := nodup_of fun i hi => (hs i hi).1
  have full : ∀ c ∈ cliques g, c ∈ R := nodup_full nd sub (by omega)
  refine ⟨hl, sub, fun v hv => ?_⟩
  obtain ⟨t, ht, tv⟩ := clique_of o hv
  have htR := full t ht
  have hpos : 0 < R.length := List.length_pos_of_mem htR
  have hR := (hs (R.length - 1) (by omega)).2
  rw [show R.length - 1 + 1 = R.length by omega, List.take_length] at hR
  obtain ⟨A, B, E, eR, eA, hA, hB, hE⟩ := stretch hR hv
  have hB0 : 0 < B.length := by
    rcases Nat.eq_zero_or_pos B.length with z | z
    · have : B = [] := List.length_eq_zero_iff.mp z
      rw [eR, this, List.append_nil] at htR
      rcases List.mem_append.mp htR with q | q
      · rw [hA t q] at tv; cases tv
      · rw [hE t q] at tv; cases tv
    · exact z
  have at_ : ∀ j, j < R.length → (node R j).testBit v = (decide (A.length ≤ j) && decide (j < A.length + B.length)) := fun j hj => by
    have := stretch_at hA hB hE (j := j) (by rw [← eR]; exact hj)
    rw [← eR] at this
    exact this
  have hlen : R.length = A.length + B.length + E.length := by rw [eR, List.length_append, List.length_append]
  have ep : places R v = (List.range B.length).map fun i => A.length + i := by
    unfold places
    have e1 : (List.range R.length).filter (fun j => (node R j).testBit v) = (List.range R.length).filter fun j => decide (A.length ≤ j) && decide (j < A.length + B.length) := List.filter_congr fun j hj => at_ j (List.mem_range.mp hj)
    rw [e1, hlen, List.range_add, List.range_add, List.filter_append, List.filter_append]
    have n1 : (List.range A.length).filter (fun j => decide (A.length ≤ j) && decide (j < A.length + B.length)) = [] := by
      rw [List.filter_eq_nil_iff]
      intro j hj
      have := List.mem_range.mp hj
      rw [decide_eq_false (by omega)]; simp
    have n2 : ((List.range B.length).map fun i => A.length + i).filter (fun j => decide (A.length ≤ j) && decide (j < A.length + B.length)) = (List.range B.length).map fun i => A.length + i := by
      rw [List.filter_eq_self]
      intro j hj
      obtain ⟨i, hi, rfl⟩ := List.mem_map.mp hj
      have := List.mem_range.mp hi
      rw [decide_eq_true (by omega), decide_eq_true (by omega)]; rfl
    have n3 : ((List.range E.length).map fun i => A.length + B.length + i).filter (fun j => decide (A.length ≤ j) && decide (j < A.length + B.length)) = [] := by
      rw [List.filter_eq_nil_iff]
      intro j hj
      obtain ⟨i, hi, rfl⟩ := List.mem_map.mp hj
      rw [decide_eq_false (by omega : ¬ A.length + B.length + i < A.length + B.length)]; simp
    rw [n1, n2, n3]
    simp
  have ef : (R.filter fun s => isIn s v) = B := by
    have fA : A.filter (fun s => isIn s v) = [] := List.filter_eq_nil_iff.mpr fun s hs' => by show ¬ s.testBit v = true; rw [hA s hs']; decide
    have fB : B.filter (fun s => isIn s v) = B := List.filter_eq_self.mpr fun s hs' => hB s hs'
    have fE : E.filter (fun s => isIn s v) = [] := List.filter_eq_nil_iff.mpr fun s hs' => by show ¬ s.testBit v = true; rw [hE s hs']; decide
    rw [eR, List.filter_append, List.filter_append, fA, fB, fE]
    simp
  have eL : (R.takeWhile fun s => !isIn s v) = A := eA.symm
  obtain ⟨b, hb⟩ : ∃ b, B.length = b + 1 := ⟨B.length - 1, by omega⟩
  refine ⟨?_, ?_⟩
  · rw [ep, hb]
    simp
  · rw [ep, eL, ef, hb]
    have l0 : ((List.range (b + 1)).map fun i => A.length + i).getD 0 0 = A.length := by
      rw [List.getD_eq_getElem?_getD, List.getElem?_map, List.getElem?_range (by omega)]
      rfl
    have l1 : ((List.range (b + 1)).map fun i => A.length + i).getLastD 0 = A.length + (b + 1) - 1 := by
      rw [List.range_succ, List.map_append, List.getLastD_eq_getLast?, List.map_cons, List.map_nil, List.getLast?_append]
      simp
    rw [l0, l1]
theorem intervals_eq {g : Graph} (o : Ok g) {R : Row} (h : lined g = some R) : intervals g R = (List.range g.length).flatMap fun v => [(places R v).getD 0 0, (places R v).getLastD 0] := by
  unfold intervals nodes
  refine sorted_flat.flatMap_congr' fun v hv => ?_
  rw [((lined_facts o h).2.2 v (List.mem_range.mp hv)).2]
/-! ### three nodes apart -/
def threeP (g : Graph) (r : Row) (v : Nat) : Bool := !r.contains v && ((r.filter fun u => joined g v u).isEmpty && (decide (r.length < 2) || (past g v (node r 0) (node r 1) && (past g (node r 1) (node r 0) v && past g (node r 0) (node r 1) v))))
theorem three_dfs {g : Graph} (o : Ok g) : dfs (threeP g) (nodes g) 3 3 [] = reaching g := by
  refine dfs_find (fun r v h => ?_) fun R hR => ?_
  · unfold threeP at h
    rw [Bool.and_eq_true] at h
    simpa using h.1
  · obtain ⟨h1, nd, _⟩ := rowsOf_mem hR
    match R, h1 with
    | [a, b, c], _ =>
      simp only [List.nodup_cons, List.mem_cons, List.not_mem_nil, or_false, not_or] at nd
      have k0 : threeP g [] a = true := rfl
      have k1 : threeP g [a] b = !joined g a b := by
        unfold threeP
        have : [a].contains b = false := by simp [Ne.symm nd.1.1]
        rw [this, o.sym' a b, List.filter_cons, List.filter_nil]
        cases joined g b a <;> rfl
      have k2 : threeP g [a, b] c = (!joined g a c && (!joined g b c && (past g c a b && (past g b a c && past g a b c)))) := by
        unfold threeP
        have : [a, b].contains c = false := by simp [Ne.symm nd.1.2, Ne.symm nd.2.1]
        rw [this, o.sym' a c, o.sym' b c, List.filter_cons, List.filter_cons, List.filter_nil]
        show (!false && (_ && (decide (2 < 2) || (past g c a b && (past g b a c && past g a b c))))) = _
        cases joined g c a <;> cases joined g c b <;> simp
      unfold okF
      rw [Bool.eq_iff_iff, decide_eq_true_eq]
      have e : isReaching g [a, b, c] = (!joined g a b && (!joined g a c && (!joined g b c && (past g c a b && (past g a b c && past g b a c))))) := rfl
      rw [e]
      constructor
      · intro h
        have h1 := h 1 (by decide) (by decide)
        have h2 := h 2 (by decide) (by decide)
        have h1 : threeP g [a] b = true := h1
        have h2 : threeP g [a, b] c = true := h2
        rw [k1] at h1
        rw [k2] at h2
        simp only [Bool.and_eq_true] at h2 ⊢
        exact ⟨h1, h2.1, h2.2.1, h2.2.2.1, h2.2.2.2.2, h2.2.2.2.1⟩
      · intro h i hi _
        simp only [Bool.and_eq_true] at h
        match i, hi with
        | 0, _ => exact k0
        | 1, _ => show threeP g [a] b = true; rw [k1]; exact h.1
        | 2, _ =>
          show threeP g [a, b] c = true
          rw [k2]
          simp only [Bool.and_eq_true]
          exact ⟨h.2.1, h.2.2.1, h.2.2.2.1, h.2.2.2.2.2, h.2.2.2.2.1⟩
theorem past_rt {g : Graph} {x a b : Nat} (ha : a < g.length) (fr : Row) (hf : fr = (List.range g.length).filter fun v => v != x && !joined g v x) : past g x a b = true ↔ a ∈ fr ∧ Rt (fun v => fr.filter fun u => joined g v u) a b := by
  have hl : ∀ u, u ∈ fr ↔ u < g.length ∧ (u != x && !joined g u x) = true := fun u => by rw [hf, List.mem_filter, List.mem_range]
  unfold past
  rw [comesA_iff ha, rt_rc hl, hl]
  exact ⟨fun h => ⟨⟨ha, h.1⟩, h.2⟩, fun h => ⟨h.1.2, h.2⟩⟩
theorem interval_eq (ns : List Int) : PyWrgood.interval ns = if isGraph (WrgoodNeutral.graph ns) = true then (match chordlessRing (WrgoodNeutral.graph ns) with
    | some r => 0 :: r.map (fun (k : Nat) => (k : Int))
    | none => match reaching (WrgoodNeutral.graph ns) with
      | some r => 0 :: r.map (fun (k : Nat) => (k : Int))
      | none => 1 :: (intervals (WrgoodNeutral.graph ns) ((lined (WrgoodNeutral.graph ns)).getD [])).map (fun (k : Nat) => (k : Int))) else [-1] := by
  show WrgoodNeutral.told (if isGraph (WrgoodNeutral.graph ns) = true then (match chordlessRing (WrgoodNeutral.graph ns) with
    | some r => Wrgood.Answer.not_ r
    | none => match reaching (WrgoodNeutral.graph ns) with
      | some r => .not_ r
      | none => .yes (intervals (WrgoodNeutral.graph ns) ((lined (WrgoodNeutral.graph ns)).getD []))) else .no (-1)) = _
  by_cases h : isGraph (WrgoodNeutral.graph ns) = true
  · rw [if_pos h, if_pos h]
    cases chordlessRing (WrgoodNeutral.graph ns) with
    | some r => rfl
    | none => cases reaching (WrgoodNeutral.graph ns) <;> rfl
  · rw [if_neg h, if_neg h]; rfl
end Gm

end
set_option Elab.async false
set_option linter.all false
set_option maxRecDepth 100000
set_option maxHeartbeats 4000000
/-! what all defs of this program share: graphs and rows as values, the defs' facts -/
namespace Gp
open PySem PyProof.Rows L2
open PySem.Spec hiding Row
open Gg (Graph Row joined isGraph nodes)
def top (i : Nat) : Stmt := PySem.Challenge.pw_goodkinds_s07_interval.main.body.getD i (.Pass ⟨0, 0, 0, 0⟩)
/-- a def of the text: where it stands, how it's bound -/
structure Df (K : PySem.W.Frag) (mg : Str → Option Value) (x : Str) (st : Stmt) (ps : List Str) (f : Addr) (fd : FuncData) : Prop where
  F : Fun K x x st f fd
  m : mg x = some (.ref f)
  b : Binds K fd ps []
/-- built-in names that the text leaves alone -/
structure Bn (mg : Str → Option Value) : Prop where
  len : mg "len" = none
  range : mg "range" = none
  any : mg "any" = none
  min : mg "min" = none
  list : mg "list" = none
  sum : mg "sum" = none
  all : mg "all" = none
  max : mg "max" = none
  sorted : mg "sorted" = none
  reversed : mg "reversed" = none
  tuple : mg "tuple" = none
def nv (n : Nat) : V := .int (n : Int)
def gv (g : List Nat) : List V := g.map nv
theorem gv_len (g : List Nat) : (gv g).length = g.length := by unfold gv; rw [List.length_map]
theorem gv_get {g : List Nat} {i : Nat} (h : i < g.length) : (gv g)[i]? = some (nv (g.getD i 0)) := by
  unfold gv
  rw [List.getElem?_map, List.getD_eq_getElem?_getD, List.getElem?_eq_getElem h]; rfl
theorem gv_at {g : List Nat} {i : Nat} (h : i < g.length) : atI (gv g) ((i : Nat) : Int) = some (nv (g.getD i 0)) := atI_nat (gv_get h)
theorem gv_snoc (g : List Nat) (v : Nat) : gv (g ++ [v]) = gv g ++ [nv v] := by unfold gv; rw [List.map_append]; rfl
theorem nv_eq (i j : Nat) : decide (nv i = nv j) = decide (i = j) := by
  unfold nv
  by_cases h : i = j
  · subst h; simp
  · rw [decide_eq_false h, decide_eq_false]
    intro e
    injection e with e
    exact h (by omega)
theorem line1000 {n : Nat} (h : n ≤ 1000) : n < sizeLine := small1000 h
theorem line1000' {n : Nat} (h : n ≤ 1000) : n ≤ sizeLine := Nat.le_of_lt (small1000 h)
/-! ### heaps that grow -/
theorem same_new {H : Hp} {p : Addr} {o : HO} (h : H p = none) : Same H (upd H p o) := fun b u e => by
  rw [upd_ne (ne_of_none e h)]; exact e
theorem Same.put {H H' : Hp} (e : Same H H') {p : Addr} {o : HO} (h : H p = none) : Same H (upd H' p o) := fun b u q => by
  rw [upd_ne (ne_of_none q h)]; exact e b u q
/-- a row of nodes stands at v -/
def RV (H : Hp) (v : V) (r : Row) : Prop := ∃ a, v = .ref a ∧ H a = some (.lst (gv r))
theorem RV.mono {H H' : Hp} (e : Same H H') {v : V} {r : Row} (h : RV H v r) : RV H' v r := by
  obtain ⟨a, h1, h2⟩ := h
  exact ⟨a, h1, e _ _ h2⟩
abbrev RVs (H : Hp) : List V → List Row → Prop := Paired (RV H)
theorem RVs.mono {H H' : Hp} (e : Same H H') {vs : List V} {rs : List Row} (h : RVs H vs rs) : RVs H' vs rs := by
  induction h with
  | nil => exact .nil
  | cons a _ ih => exact .cons (a.mono e) ih
theorem RVs.snoc {H : Hp} {vs : List V} {rs : List Row} {v : V} {r : Row} (h : RVs H vs rs) (q : RV H v r) : RVs H (vs ++ [v]) (rs ++ [r]) := by
  induction h with
  | nil => exact .cons q .nil
  | cons a _ ih => exact .cons a ih
/-- rows none of which stands at l -/
def RX (l : Addr) (H : Hp) (v : V) (r : Row) : Prop := ∃ a, v = .ref a ∧ a ≠ l ∧ H a = some (.lst (gv r))
abbrev RXs (l : Addr) (H : Hp) : List V → List Row → Prop := Paired (RX l H)
theorem RX.rv {l : Addr} {H : Hp} {v : V} {r : Row} (h : RX l H v r) : RV H v r := by
  obtain ⟨a, h1, _, h2⟩ := h
  exact ⟨a, h1, h2⟩
theorem RXs.rv {l : Addr} {H : Hp} {vs : List V} {rs : List Row} (h : RXs l H vs rs) : RVs H vs rs := by
  induction h with
  | nil => exact .nil
  | cons a _ ih => exact .cons a.rv ih
theorem RXs.keep {l : Addr} {H H' : Hp} (e : ∀ b o, H b = some o → b ≠ l → H' b = some o) {vs : List V} {rs : List Row} (h : RXs l H vs rs) : RXs l H' vs rs := by
  induction h with
  | nil => exact .nil
  | cons a _ ih =>
    obtain ⟨x, h1, h2, h3⟩ := a
    exact .cons ⟨x, h1, h2, e _ _ h3 h2⟩ ih
theorem RXs.snoc {l : Addr} {H : Hp} {vs : List V} {rs : List Row} {v : V} {r : Row} (h : RXs l H vs rs) (q : RX l H v r) : RXs l H (vs ++ [v]) (rs ++ [r]) := by
  induction h with
  | nil => exact .cons q .nil
  | cons a _ ih => exact .cons a ih
theorem Paired.get' {α β : Type} {F : α → β → Prop} : ∀ {l : List α} {m : List β}, Paired F l m → ∀ {i : Nat} {x : α}, l[i]? = some x → ∃ y, m[i]? = some y ∧ F x y
  | _, _, .nil, _, _, h => by simp at h
  | _, _, .cons a _, 0, _, h => by
    simp at h; subst h
    exact ⟨_, rfl, a⟩
  | _, _, .cons _ t, i + 1, _, h => by
    obtain ⟨y, h1, h2⟩ := Paired.get' t (i := i) (by simpa using h)
    exact ⟨y, by simpa using h1, h2⟩
end Gp
namespace Gp
open L2
theorem gv_graph : ∀ ns : List Int, (∀ x ∈ ns, (0 : Int) ≤ x) → gv (WrgoodNeutral.graph ns) = ns.map V.int
  | [], _ => rfl
  | n :: ns, h => by
    have ih := gv_graph ns fun x hx => h x (List.mem_cons_of_mem _ hx)
    have h0 := h n List.mem_cons_self
    show nv n.toNat :: gv (WrgoodNeutral.graph ns) = V.int n :: ns.map V.int
    rw [ih]
    unfold nv
    rw [Int.toNat_of_nonneg h0]
end Gp

namespace Gp
open PySem
abbrev s_interval : Stmt := top 2
abbrev s_is_graph : Stmt := top 3
abbrev s_joined : Stmt := top 4
abbrev s_neighbours : Stmt := top 5
abbrev s_members : Stmt := top 6
abbrev s_first_row : Stmt := top 7
abbrev s_first_shaped : Stmt := top 8
abbrev s_first_of_shape : Stmt := top 9
abbrev s_keeps_shape : Stmt := top 10
abbrev s_ring_shape : Stmt := top 11
abbrev s_first_ring : Stmt := top 12
abbrev s_reached : Stmt := top 13
abbrev s_first_three : Stmt := top 14
abbrev s_begins_three : Stmt := top 15
abbrev s_way_past : Stmt := top 16
abbrev s_greatest_cliques : Stmt := top 17
abbrev s_is_clique : Stmt := top 18
abbrev s_may_follow : Stmt := top 19
end Gp
/-! rules of this proof's own: comprehensions by a test and a value, list(range(n)), row[1:-1] -/
namespace L2
open PySem PySem.Spec PyProof.Rows
section
variable {X : Cx}
/-- [f x for x in xs if p x], each turn leaving what stands as it stands -/
theorem lc_pick {α : Type} {K : PySem.W.Frag} {a : Addr} {r : List α} {φ : α → V} {g : TG} {tt : TT} {te : TE} {vs : List Nat} {σ : St} {H1 : Hp} {D : Addr} {Qd : Hp → Prop} (p : α → Bool) (f : α → V) (hS : SqL K H1 a (r.map φ)) (hD : H1 D = none) (hz : r.length ≤ 16777216)
    (hs : ∀ x ∈ r, ∀ H, Same H1 H → ∀ (k1 : VK) (k0 : Hp → Prop), (p x = true → ∀ H4, Same H H4 → k1 (f x) H4) → (p x = false → ∀ H3, Same H H3 → k0 H3) → g (φ x) (wipe σ vs) H fun σ2 H2 => wipe σ2 vs = wipe σ vs ∧ tt σ2 H2 fun b H3 => if b = true then te σ2 H3 k1 else k0 H3)
    (hd : ∀ H, Same H1 H → H D = some (.lst ((r.filter p).map f)) → Qd H) :
    ∃ W : Nat → Nat → Hp → Prop, (∃ m, W 0 m (upd H1 D (.lst []))) ∧ ∀ i m H, W i m H →
      ((Itl K a).stop i H ∧ Qd H) ∨ ((Itl K a).go i H ∧ ∃ Nx : Hp → Prop, (∀ H', Nx H' → ∃ m', m' < m ∧ W (i + 1) m' H') ∧ ∀ x H', (Itl K a).yld i H x H' → g x (wipe σ vs) H' fun σ2 H2 => wipe σ2 vs = wipe σ vs ∧ tt σ2 H2 fun b H3 =>
        if b = true then te σ2 H3 fun y H4 => ∃ acc, H4 D = some (.lst acc) ∧ acc.length < sizeLine ∧ Nx (upd H4 D (.lst (acc ++ [y]))) else Nx H3) := by
  refine lc_list (xs := r.map φ) (fun i H => Same H1 H ∧ H D = some (.lst (((r.take i).filter p).map f))) ⟨fun b o e => by rw [upd_ne (ne_of_none e hD)]; exact e, upd_same⟩ (fun i H _ h => h.1.seq hS) ?_ ?_
  · rintro i y H hi ⟨s1, h1⟩
    rw [List.getElem?_map] at hi
    cases e : r[i]? with
    | none => rw [e] at hi; cases hi
    | some x =>
      rw [e] at hi
      have hy : φ x = y := Option.some.inj hi
      subst hy
      have hlt : i < r.length := (List.getElem?_eq_some_iff.mp e).1
      have hx : r[i] = x := (List.getElem?_eq_some_iff.mp e).2
      have tk : r.take (i + 1) = r.take i ++ [x] := by rw [List.take_succ_eq_append_getElem hlt, hx]
      refine hs x (List.mem_of_getElem? e) H s1 _ _ (fun px H4 s4 => ?_) (fun px H3 s3 => ?_)
      · refine ⟨_, s4 _ _ h1, ?_, ?_, ?_⟩
        · rw [List.length_map, sizeLine_eq]
          have := List.length_filter_le p (r.take i)
          rw [List.length_take] at this
          omega
        · intro b o q
          rw [upd_ne (ne_of_none q hD)]
          exact s4 _ _ (s1 _ _ q)
        · rw [upd_same, tk, List.filter_append, List.filter_cons_of_pos px, List.filter_nil, List.map_append]
          rfl
      · refine ⟨fun b o q => s3 _ _ (s1 _ _ q), ?_⟩
        rw [tk, List.filter_append, List.filter_cons_of_neg (by rw [px]; simp), List.filter_nil, List.append_nil]
        exact s3 _ _ h1
  · rintro H ⟨s1, h1⟩
    rw [List.length_map, List.take_length] at h1
    exact hd H s1 h1
/-! ### range(n) as a thing, list of it -/
theorem my_boot_list : bootBuiltins "list" = some (.type "list") := by decide +kernel
theorem call_rng : CallR X (.type "range") (fun xs H Q => ∃ j : Int, xs = [.int j] ∧ ∀ r, H r = none → Q (.ref r) (upd H r (.rng 0 j))) := by
  intro pins s σ H xs us Q I r h
  obtain ⟨j, rfl, q⟩ := h
  obtain ⟨u, rfl, rx⟩ := vals1 r
  obtain ⟨t, rfl⟩ := rx
  refine call_range_1 ⟨.ref s.heap.objs.size, _, I.laid (o := .rng 0 j) (fun b o e => Heap.get?_push_of_some _ e) (Nat.le_refl _) ⟨_, _, _, Heap.get?_push_size _ rfl⟩, rfl, q _ (I.hok.fresh (Nat.le_refl _))⟩
theorem call_list_rng (hc : X.calm = true) : CallR X (.type "list") (fun xs H Q => ∃ (p : Addr) (n : Nat), xs = [.ref p] ∧ H p = some (.rng 0 (n : Int)) ∧ n ≤ 1000 ∧ ∀ l, H l = none → Q (.ref l) (upd H l (.lst ((List.range n).map fun (i : Nat) => V.int (i : Int))))) := by
  intro pins s σ H xs us Q I r h
  obtain ⟨p, n, rfl, hp, hn, q⟩ := h
  obtain ⟨u, rfl, rx⟩ := vals1 r
  cases rx
  obtain ⟨t1, t2, t3, e⟩ := I.hok p _ hp
  refine PySem.call_list_range (n := n) (I.ok.hd hc) (show IsRange s.heap p 0 (n : Int) 1 t1 t2 t3 from e) (small_one (by omega) (by omega) (by omega) (by omega)) ?_ (by omega) fun h' tk acc c' kp eL it => ?_
  · rw [rangeSize_one]; split <;> omega
  · have hv : Vals ((List.range n).map fun (i : Nat) => V.int (i : Int)) acc.toList := by
      have hsz := it.1
      have : ∀ (m : Nat) (l : List Value), l.length = m → (∀ (j : Nat) (v : Value), l[j]? = some v → ∃ t, v = Value.int (j : Int) t) → Vals ((List.range m).map fun (i : Nat) => V.int (i : Int)) l := by
        intro m
        induction m with
        | zero =>
          intro l hl _
          rw [List.length_eq_zero_iff.mp hl]
          exact .nil
        | succ m ih =>
          intro l hl hv
          have hne : l ≠ [] := by intro z; rw [z] at hl; simp at hl
          have hd := List.dropLast_concat_getLast hne
          have h1 := ih l.dropLast (by rw [List.length_dropLast, hl]; rfl) (fun j v hj => hv j v (by
            rw [← hd, List.getElem?_append_left (by have := (List.getElem?_eq_some_iff.mp hj).1; exact this)]
            exact hj))
          rw [← hd, List.range_succ, List.map_append]
          refine Vals.append h1 (.cons ?_ .nil)
          obtain ⟨t, et⟩ := hv m (l.getLast hne) (by
            rw [List.getLast_eq_getElem, List.getElem?_eq_getElem (by omega)]
            congr 1
            congr 1
            omega)
          exact ⟨t, et⟩
      refine this n acc.toList (by rw [Array.length_toList, hsz]) fun j v hj => ?_
      obtain ⟨t, et⟩ := it.2 j v (by rw [← Array.getElem?_toList]; exact hj)
      refine ⟨t, ?_⟩
      rw [et]
      simp
    refine ⟨.ref s.heap.objs.size, _, I.laid (t' := tk) (o := .lst ((List.range n).map fun (i : Nat) => V.int (i : Int))) kp (Nat.le_refl _) ?_, rfl, q _ (I.hok.fresh (Nat.le_refl _))⟩
    refine ⟨?_, acc.toList, c', hv, ?_⟩
    · rw [List.length_map, List.length_range, sizeLine_eq]; omega
    · simpa using eL
/-- xs[1:-1] -/
theorem cut_inner (xs : List V) : cutV xs (some 1) (some (-1)) = (xs.drop 1).dropLast := by
  unfold cutV
  have e1 : HT.sIx xs.length 0 (some 1) = min 1 xs.length := HT.sIx_nat xs.length 0 1
  have e2 : HT.sIx xs.length xs.length (some (-1)) = xs.length - 1 := by
    show (if (-1 : Int) < 0 then ((-1 : Int) + (xs.length : Int)).toNat else min (-1 : Int).toNat xs.length) = _
    rw [if_pos (by decide)]
    omega
  rw [e1, e2, List.dropLast_eq_take, List.length_drop]
  cases xs with
  | nil => rfl
  | cons a t =>
    have : min 1 (a :: t).length = 1 := by simp
    rw [this]
end
end L2

/-! comprehensions over a range by a test and a value -/
namespace L2
open PySem PySem.Spec PyProof.Rows
def rLen (K : PySem.W.Frag) : List V → Hp → VK → Prop := fun xs H Q => ∃ p ys, xs = [.ref p] ∧ (SqL K H p ys ∨ SqT K H p ys) ∧ Q (.int ys.length) H
theorem cr_len {X : Cx} : CallR X (.builtin "len") (rLen X.K) := call_len_seq
theorem lc_pickR {n : Nat} {g : TG} {tt : TT} {te : TE} {vs : List Nat} {σ : St} {H1 : Hp} {D : Addr} {Qd : Hp → Prop} (p : Nat → Bool) (f : Nat → V) (hD : H1 D = none) (hz : n ≤ 16777216)
    (hs : ∀ i, i < n → ∀ H, Same H1 H → ∀ (k1 : VK) (k0 : Hp → Prop), (p i = true → ∀ H4, Same H H4 → k1 (f i) H4) → (p i = false → ∀ H3, Same H H3 → k0 H3) → g (.int ((i : Nat) : Int)) (wipe σ vs) H fun σ2 H2 => wipe σ2 vs = wipe σ vs ∧ tt σ2 H2 fun b H3 => if b = true then te σ2 H3 k1 else k0 H3)
    (hd : ∀ H, Same H1 H → H D = some (.lst (((List.range n).filter p).map f)) → Qd H) :
    ∃ W : Nat → Nat → Hp → Prop, (∃ m, W 0 m (upd H1 D (.lst []))) ∧ ∀ i m H, W i m H →
      ((Itr 0 n).stop i H ∧ Qd H) ∨ ((Itr 0 n).go i H ∧ ∃ Nx : Hp → Prop, (∀ H', Nx H' → ∃ m', m' < m ∧ W (i + 1) m' H') ∧ ∀ x H', (Itr 0 n).yld i H x H' → g x (wipe σ vs) H' fun σ2 H2 => wipe σ2 vs = wipe σ vs ∧ tt σ2 H2 fun b H3 =>
        if b = true then te σ2 H3 fun y H4 => ∃ acc, H4 D = some (.lst acc) ∧ acc.length < sizeLine ∧ Nx (upd H4 D (.lst (acc ++ [y]))) else Nx H3) := by
  refine lc_range (fun i H => Same H1 H ∧ H D = some (.lst (((List.range i).filter p).map f))) ⟨fun b o e => by rw [upd_ne (ne_of_none e hD)]; exact e, upd_same⟩ ?_ ?_
  · rintro i H hi ⟨s1, h1⟩
    rw [Int.zero_add]
    refine hs i hi H s1 _ _ (fun px H4 s4 => ?_) (fun px H3 s3 => ?_)
    · refine ⟨_, s4 _ _ h1, ?_, ?_, ?_⟩
      · rw [List.length_map, sizeLine_eq]
        have := List.length_filter_le p (List.range i)
        rw [List.length_range] at this
        omega
      · intro b o q
        rw [upd_ne (ne_of_none q hD)]
        exact s4 _ _ (s1 _ _ q)
      · rw [upd_same, List.range_succ, List.filter_append, List.filter_cons_of_pos px, List.filter_nil, List.map_append]
        rfl
    · refine ⟨fun b o q => s3 _ _ (s1 _ _ q), ?_⟩
      rw [List.range_succ, List.filter_append, List.filter_cons_of_neg (by rw [px]; simp), List.filter_nil, List.append_nil]
      exact s3 _ _ h1
  · rintro H ⟨s1, h1⟩
    exact hd H s1 h1
end L2
namespace Gp
open PySem L2
theorem bit_nat (s j : Nat) : decide (V.int (Builtin.bitAnd ((s : Int) / 2 ^ (((j : Nat) : Int).toNat)) 1) = V.int 1) = s.testBit j := by
  have e := Bits.bit_at (x := (s : Int)) j
  rw [Int.fdiv_eq_ediv_of_nonneg _ (by exact_mod_cast Nat.zero_le (2 ^ j))] at e
  rw [Int.toNat_natCast, e, Nat.testBit_eq_decide_div_mod_eq]
  have c : ((s : Int) / 2 ^ j % 2) = ((s / 2 ^ j % 2 : Nat) : Int) := by
    rw [Int.natCast_emod, Int.natCast_ediv, Int.natCast_pow]; rfl
  rw [c]
  by_cases h : s / 2 ^ j % 2 = 1
  · rw [h, decide_eq_true (by rfl), decide_eq_true rfl]
  · rw [decide_eq_false h, decide_eq_false]
    intro q
    injection q with q
    exact h (by omega)
end Gp

/-! bit operators of natural numbers -/
namespace Gp
open PySem L2
theorem and_nat (a b : Nat) : Builtin.bitAnd (a : Int) (b : Int) = ((a &&& b : Nat) : Int) := by
  unfold Builtin.bitAnd
  rw [decide_eq_true (Int.natCast_nonneg a), decide_eq_true (Int.natCast_nonneg b)]
  rfl
theorem or_nat (a b : Nat) : Builtin.bitOr (a : Int) (b : Int) = ((a ||| b : Nat) : Int) := by
  unfold Builtin.bitOr Builtin.bitAnd Builtin.bitNot
  rw [decide_eq_false (by omega), decide_eq_false (by omega)]
  have h1 : (-(-(a : Int) - 1) - 1).toNat = a := by omega
  have h2 : (-(-(b : Int) - 1) - 1).toNat = b := by omega
  show -(-(((-(-(a : Int) - 1) - 1).toNat ||| (-(-(b : Int) - 1) - 1).toNat : Nat) : Int) - 1) - 1 = _
  rw [h1, h2]
  omega
theorem shl_one (n : Nat) : (1 : Int) * 2 ^ (((n : Nat) : Int).toNat) = ((2 ^ n : Nat) : Int) := by
  rw [Int.one_mul, Int.toNat_natCast, Int.natCast_pow]; rfl
theorem nv_int (n : Nat) : V.int (n : Int) = nv n := rfl
end Gp

namespace Gp
open PySem L2
open Gg (Row)
theorem gv_item {l : Row} {i : Nat} {y : V} (h : (gv l)[i]? = some y) : ∃ x, l[i]? = some x ∧ y = nv x := by
  unfold gv at h
  rw [List.getElem?_map] at h
  cases e : l[i]? with
  | none => rw [e] at h; cases h
  | some x => rw [e] at h; exact ⟨x, rfl, (Option.some.inj h).symm⟩
theorem take_mem_succ {α : Type} {l : List α} {i : Nat} {x y : α} (hi : l[i]? = some x) (hy : y ∈ l.take (i + 1)) : y ∈ l.take i ∨ y = x := by
  have hlt := (List.getElem?_eq_some_iff.mp hi).1
  have hx := (List.getElem?_eq_some_iff.mp hi).2
  rw [List.take_succ_eq_append_getElem hlt, hx] at hy
  rcases List.mem_append.mp hy with q | q
  · exact .inl q
  · exact .inr (List.mem_singleton.mp q)
theorem in_gv (r : Row) (v : Nat) : inV (nv v) (gv r) = r.contains v := by
  unfold inV gv
  induction r with
  | nil => rfl
  | cons a b ih =>
    rw [List.map_cons, List.any_cons, ih, List.contains_cons]
    congr 1
    show eqV (nv a) (nv v) = _
    unfold nv eqV
    by_cases h : v = a
    · subst h; simp
    · have h2 : ¬ ((a : Int) = (v : Int)) := by omega
      rw [beq_eq_false_iff_ne.mpr h]
      exact beq_eq_false_iff_ne.mpr h2
theorem flat_gv (r : Row) : (gv r).all flatV = true := by
  rw [List.all_eq_true]
  intro x hx
  obtain ⟨n, _, rfl⟩ := List.mem_map.mp hx
  rfl
theorem gv_range (n : Nat) : (List.range n).map (fun (i : Nat) => V.int (i : Int)) = gv (List.range n) := rfl
end Gp

namespace Gp
open PySem PyProof.Rows L2
open PySem.Spec hiding Row
open Gg (Graph Row joined isGraph nodes)
section
variable {P : Program} {w : World} {K : PySem.W.Frag} {mg : Str → Option Value} {base : Heap}
/-- the two nodes are joined -/
def spJoined (K : PySem.W.Frag) : Sp := fun vs H Q _ => ∃ (a : Addr) (g : Graph) (i j : Nat), vs = [.ref a, nv i, nv j] ∧ SqL K H a (gv g) ∧ i < g.length ∧ Q (.bl (joined g i j)) H
theorem bit_joined (g : Graph) (i j : Nat) : decide (V.int (Builtin.bitAnd (((g.getD i 0 : Nat) : Int) / 2 ^ (((j : Nat) : Int).toNat)) 1) = V.int 1) = joined g i j := by
  have e := Bits.bit_at (x := ((g.getD i 0 : Nat) : Int)) j
  rw [Int.fdiv_eq_ediv_of_nonneg _ (by exact_mod_cast Nat.zero_le (2 ^ j))] at e
  rw [Int.toNat_natCast, e]
  unfold joined
  rw [Nat.testBit_eq_decide_div_mod_eq]
  have c : (((g.getD i 0 : Nat) : Int) / 2 ^ j % 2) = (((g.getD i 0) / 2 ^ j % 2 : Nat) : Int) := by
    rw [Int.natCast_emod, Int.natCast_ediv, Int.natCast_pow]; rfl
  rw [c]
  by_cases h : (g.getD i 0) / 2 ^ j % 2 = 1
  · rw [h, decide_eq_true (by rfl), decide_eq_true rfl]
  · rw [decide_eq_false h, decide_eq_false]
    intro q
    injection q with q
    exact h (by omega)
theorem sc_joined : FnScope ["graph", "node", "other"] ["graph", "node", "other"] (defScope s_joined) := ⟨rfl, rfl, rfl, by decide +kernel, rfl, by decide +kernel, by decide +kernel⟩
theorem ok_joined {f : Addr} {fd : FuncData} (D : Df K mg "joined" s_joined ["graph", "node", "other"] f fd) : FnOk P w K mg base CX0 1 f fd ["graph", "node", "other"] (spJoined K) := by
  refine D.F.ok sc_joined (fun vs H Q E h => ?_) (fun cdv A outer s H vs Q E hr h => ?_)
  · obtain ⟨a, g, i, j, rfl, _⟩ := h
    rfl
  · obtain ⟨a, g, i, j, rfl, hS, hi, q⟩ := h
    refine ⟨_, pss_one (ps_ret (pe_cmpR op_eq (pe_op op_and (pe_op op_shr (pe_ix ix_list (pv 0) (pv 1) (fun _ _ => rfl)) (pv 2)) pe_int) pe_int (nomark _))), ?_⟩
    refine ⟨_, rfl, _, rfl, a, _, _, _, rfl, rfl, hS, gv_at hi, _, rfl, _, _, rfl, rfl, Int.natCast_nonneg _, _, _, rfl, rfl, rfl, ?_⟩
    rw [bit_joined g i j]
    exact q
end
end Gp

namespace Gp
open PySem PyProof.Rows L2
open PySem.Spec hiding Row
open Gg (Graph Row joined isGraph nodes)
section
variable {P : Program} {w : World} {K : PySem.W.Frag} {mg : Str → Option Value} {base : Heap}
/-- whether it's a graph -/
def spIsGraph (K : PySem.W.Frag) : Sp := fun vs H Q _ => ∃ (a : Addr) (g : Graph), vs = [.ref a] ∧ SqL K H a (gv g) ∧ g.length ≤ 12 ∧ Q (.bl (isGraph g)) H
/-- a node's number is as it should be, up to its own place -/
def RowOk (g : Graph) (i : Nat) : Prop := g.getD i 0 < 2 ^ g.length ∧ joined g i i = false ∧ ∀ j, j < i → joined g i j = joined g j i
theorem isGraph_of {g : Graph} (h1 : 1 ≤ g.length) (h2 : g.length ≤ 8) (h : ∀ i, i < g.length → RowOk g i) : isGraph g = true := (Gm.isGraph_iff g).mpr ⟨h1, h2, h⟩
theorem not_graph {g : Graph} (h : ¬ (1 ≤ g.length ∧ g.length ≤ 8 ∧ ∀ i, i < g.length → RowOk g i)) : isGraph g = false := by
  cases e : isGraph g with
  | false => rfl
  | true => exact absurd ((Gm.isGraph_iff g).mp e) h
theorem shr_size {x n : Nat} (h : (((x : Nat) : Int) / 2 ^ (((n : Nat) : Int).toNat)) = 0) : x < 2 ^ n := by
  rw [Int.toNat_natCast] at h
  have c : (((x : Nat) : Int) / 2 ^ n) = ((x / 2 ^ n : Nat) : Int) := by
    rw [Int.natCast_ediv, Int.natCast_pow]; rfl
  rw [c] at h
  have h2 : x / 2 ^ n = 0 := by omega
  rcases Nat.lt_or_ge x (2 ^ n) with q | q
  · exact q
  · have := Nat.div_pos q (Nat.two_pow_pos n)
    omega
theorem size_shr {x n : Nat} (h : x < 2 ^ n) : (((x : Nat) : Int) / 2 ^ (((n : Nat) : Int).toNat)) = 0 := by
  rw [Int.toNat_natCast]
  have c : (((x : Nat) : Int) / 2 ^ n) = ((x / 2 ^ n : Nat) : Int) := by
    rw [Int.natCast_ediv, Int.natCast_pow]; rfl
  rw [c, Nat.div_eq_of_lt h]; rfl
theorem sc_is_graph : FnScope ["graph", "size", "node", "other"] ["graph"] (defScope s_is_graph) := ⟨rfl, rfl, rfl, by decide +kernel, rfl, by decide +kernel, by decide +kernel⟩
theorem ok_is_graph {f fJ : Addr} {fd fdJ : FuncData} {t8 : Tok} (D : Df K mg "is_graph" s_is_graph ["graph"] f fd) (DJ : Df K mg "joined" s_joined ["graph", "node", "other"] fJ fdJ) (B : Bn mg) (h8 : mg "MOST_NODES" = some (.int 8 t8)) :
    FnOk P w K mg base CX0 2 f fd ["graph"] (spIsGraph K) := by
  have GJ : FnOk P w K mg base CX0 1 fJ fdJ ["graph", "node", "other"] (spJoined K) := ok_joined DJ
  refine D.F.ok sc_is_graph (fun vs H Q E h => ?_) (fun cdv A outer s H vs Q E hr h => ?_)
  · obtain ⟨a, g, rfl, _⟩ := h
    rfl
  · obtain ⟨a, g, rfl, hS, h12, q⟩ := h
    refine ⟨_, pss_cons (ps_set (i := 1) sc_is_graph.nd rfl (Or.inl rfl) (pe_callB call_len_seq (by rfl) B.len PySem.boot_len (pa_cons (pv 0) pa_nil)))
      (pss_cons (ps_if (pw_or (pt_cmpR op_lt (pv 1) pe_int (nomark _)) (pw_or1 (pt_cmpR op_gt (pv 1) (pe_glob (v := .int 8) (by rfl) h8 ⟨_, rfl⟩) (nomark _)))).pt (pss_one (ps_ret pe_bl)) pss_nil)
      (pss_cons (ps_for PassesOwn.never rfl (pi_range1 (by rfl) B.range (pa_cons (pv 1) pa_nil)) (pg_name (i := 2) sc_is_graph.nd rfl (Or.inl rfl))
        (pss_cons (ps_if (pw_or (pt_cmpR op_ne (pe_op op_shr (pe_ix ix_list (pv 0) (pv 2) (fun _ _ => rfl)) (pv 1)) pe_int (nomark _))
            (pw_or1 (pt_val (pe_call GJ hr (by rfl) DJ.m DJ.F.kp DJ.b .nil pass0 (pa_cons (pv 0) (pa_cons (pv 2) (pa_cons (pv 2) pa_nil))))))).pt (pss_one (ps_ret pe_bl)) pss_nil)
          (pss_one (ps_for PassesOwn.never rfl (pi_range1 (by rfl) B.range (pa_cons (pv 2) pa_nil)) (pg_name (i := 3) sc_is_graph.nd rfl (Or.inl rfl))
            (pss_one (ps_if (pt_cmpR op_ne (pe_call GJ hr (by rfl) DJ.m DJ.F.kp DJ.b .nil pass0 (pa_cons (pv 0) (pa_cons (pv 2) (pa_cons (pv 3) pa_nil)))) (pe_call GJ hr (by rfl) DJ.m DJ.F.kp DJ.b .nil pass0 (pa_cons (pv 0) (pa_cons (pv 3) (pa_cons (pv 2) pa_nil)))) (nomark _))
              (pss_one (ps_ret pe_bl)) pss_nil))))))
      (pss_one (ps_ret pe_bl)))), ?_⟩
    -- size = len(graph)
    refine ⟨_, rfl, a, _, rfl, .inl hS, ?_⟩
    rw [gv_len]
    -- size < 1 or size > MOST_NODES
    refine ⟨_, rfl, _, _, rfl, rfl, _, rfl, ite2 (fun h => ?_) (fun h => ?_)⟩
    · have h := of_decide_eq_true h
      refine iteT ?_
      show Q (.bl false) H
      rw [← not_graph (g := g) (fun z => by omega)]
      exact q
    have h1 : 1 ≤ g.length := by
      have := of_decide_eq_false (Bool.eq_false_iff.mpr h)
      omega
    refine ⟨_, rfl, _, _, rfl, rfl, _, rfl, ite2 (fun h => ?_) (fun h => ?_)⟩
    · have h := of_decide_eq_true h
      show Q (.bl false) H
      rw [← not_graph (g := g) (fun z => by omega)]
      exact q
    have h8 : g.length ≤ 8 := by
      have := of_decide_eq_false (Bool.eq_false_iff.mpr h)
      omega
    -- for node in range(size)
    refine ⟨_, rfl, _, rfl, by omega, by omega, for_range (n := g.length) (fun i σ H' => ∃ v2 v3 : Option V, σ = [some (.ref a), some (nv g.length), v2, v3] ∧ H' = H ∧ ∀ i', i' < i → RowOk g i')
      ⟨none, none, rfl, rfl, fun i' hi' => absurd hi' (by omega)⟩ ?_ ?_⟩
    · rintro i σ H' hi ⟨v2, v3, rfl, rfl, ih⟩
      rw [Int.zero_add]
      -- graph[node] >> size != 0 or joined(graph, node, node)
      refine ⟨_, rfl, _, rfl, a, _, _, _, rfl, rfl, hS, gv_at hi, _, rfl, _, _, rfl, rfl, Int.natCast_nonneg _, rfl, _, rfl, ite2 (fun h => ?_) (fun h => ?_)⟩
      · refine iteT ?_
        show Q (.bl false) H'
        rw [← not_graph (g := g) (fun z => ?_)]
        · exact q
        · have z1 := (z.2.2 i hi).1
          have h : (!decide (V.int (((g.getD i 0 : Nat) : Int) / 2 ^ (((g.length : Nat) : Int).toNat)) = V.int 0)) = true := h
          rw [size_shr z1] at h
          exact absurd h (by decide)
      have lt : g.getD i 0 < 2 ^ g.length := by
        refine shr_size ?_
        have h2 := Bool.eq_false_iff.mpr h
        rw [Bool.not_eq_false', decide_eq_true_eq] at h2
        injection h2
      refine ⟨_, rfl, _, rfl, _, rfl, a, g, i, i, rfl, hS, hi, _, rfl, ite2 (fun h => ?_) (fun h => ?_)⟩
      · show Q (.bl false) H'
        rw [← not_graph (g := g) (fun z => ?_)]
        · exact q
        · rw [(z.2.2 i hi).2.1] at h
          cases h
      have self : joined g i i = false := Bool.eq_false_iff.mpr h
      -- for other in range(node)
      refine ⟨_, rfl, _, rfl, by omega, by omega, for_range (n := i) (fun j σ H2 => ∃ v3 : Option V, σ = [some (.ref a), some (nv g.length), some (nv i), v3] ∧ H2 = H' ∧ ∀ j', j' < j → joined g i j' = joined g j' i)
        ⟨_, rfl, rfl, fun j' hj' => absurd hj' (by omega)⟩ ?_ ?_⟩
      · rintro j σ H2 hj ⟨v3, rfl, rfl, jh⟩
        rw [Int.zero_add]
        refine ⟨_, rfl, _, rfl, _, rfl, a, g, i, j, rfl, hS, hi, _, rfl, _, rfl, _, rfl, a, g, j, i, rfl, hS, by omega, rfl, _, rfl, ite2 (fun h => ?_) (fun h => ?_)⟩
        · show Q (.bl false) H2
          rw [← not_graph (g := g) (fun z => ?_)]
          · exact q
          · rw [(z.2.2 i hi).2.2 j hj] at h
            simp at h
        · refine ⟨_, rfl, rfl, fun j' hj' => ?_⟩
          by_cases e : j' < j
          · exact jh j' e
          · have : j' = j := by omega
            subst this
            have h2 := Bool.eq_false_iff.mpr h
            rw [Bool.not_eq_false', decide_eq_true_eq] at h2
            injection h2
      · rintro σ H2 ⟨v3, rfl, rfl, jh⟩
        refine ⟨_, _, rfl, rfl, fun i' hi' => ?_⟩
        by_cases e : i' < i
        · exact ih i' e
        · have : i' = i := by omega
          subst this
          exact ⟨lt, self, jh⟩
    · rintro σ H' ⟨v2, v3, rfl, rfl, ih⟩
      show Q (.bl true) H'
      rw [← isGraph_of h1 h8 ih]
      exact q
end
end Gp

namespace Gp
open PySem PyProof.Rows L2
open PySem.Spec hiding Row
open Gg (Graph Row joined isGraph nodes)
section
variable {P : Program} {w : World} {K : PySem.W.Frag} {mg : Str → Option Value} {base : Heap}
/-- the nodes of a set -/
def mem8 (s : Nat) : Row := (List.range 8).filter fun v => s.testBit v
def spMembers : Sp := fun vs H Q _ => ∃ s : Nat, vs = [nv s] ∧ ∀ (H' : Hp) (l : Addr), Same H H' → H l = none → H' l = some (.lst (gv (mem8 s))) → Q (.ref l) H'
theorem sc_members : FnScope ["nodes", "node"] ["nodes"] (defScope s_members) := ⟨rfl, rfl, rfl, by decide +kernel, rfl, by decide +kernel, by decide +kernel⟩
theorem ok_members {f : Addr} {fd : FuncData} {t8 : Tok} (D : Df K mg "members" s_members ["nodes"] f fd) (B : Bn mg) (h8 : mg "MOST_NODES" = some (.int 8 t8)) : FnOk P w K mg base CX0 1 f fd ["nodes"] spMembers := by
  refine D.F.ok sc_members (fun vs H Q E h => ?_) (fun cdv A outer s H vs Q E hr h => ?_)
  · obtain ⟨s, rfl, _⟩ := h
    rfl
  · obtain ⟨s, rfl, q⟩ := h
    refine ⟨_, pss_one (ps_ret (pe_lc rfl sc_members.nd (pi_range1 (by rfl) B.range (pa_cons (pe_glob (v := .int 8) (by rfl) h8 ⟨_, rfl⟩) pa_nil)) (own := [("node", 1)]) (blkOk_by (by rfl))
        (fun _ _ _ _ _ => pg_name (i := 1) sc_members.nd rfl (Or.inl rfl))
        (fun _ _ _ _ _ => pts_one (pt_cmpR op_eq (pe_op op_and (pe_op op_shr (pv 0) (pv 1)) pe_int) pe_int (nomark _)))
        (fun _ _ _ _ _ => pv 1))), ?_⟩
    refine ⟨8, rfl, by decide, by decide, fun Dn hDn => ?_⟩
    refine lc_pickR (n := 8) (fun v => s.testBit v) nv hDn (by decide) ?_ ?_
    · intro i hi H2 s2 k1 k0 y1 y0
      refine ⟨rfl, _, rfl, _, rfl, _, _, rfl, rfl, Int.natCast_nonneg _, _, _, rfl, rfl, rfl, _, rfl, ?_⟩
      rw [bit_nat s i]
      cases e : s.testBit i with
      | true => exact ⟨_, rfl, y1 e H2 (Same.refl _)⟩
      | false => exact y0 e H2 (Same.refl _)
    · intro H1 s1 h1
      exact q H1 Dn s1 hDn h1
end
end Gp

namespace Gp
open PySem PyProof.Rows L2
open PySem.Spec hiding Row
open Gg (Graph Row joined isGraph nodes)
section
variable {P : Program} {w : World} {K : PySem.W.Frag} {mg : Str → Option Value} {base : Heap}
def spNeigh (K : PySem.W.Frag) : Sp := fun vs H Q _ => ∃ (a b : Addr) (g : Graph) (v : Nat) (l : Row), vs = [.ref a, nv v, .ref b] ∧ SqL K H a (gv g) ∧ SqL K H b (gv l) ∧ v < g.length ∧ l.length ≤ 1000 ∧
  ∀ (H' : Hp) (n : Addr), Same H H' → H n = none → H' n = some (.lst (gv (l.filter fun u => joined g v u))) → Q (.ref n) H'
theorem sc_neighbours : FnScope ["graph", "node", "among", "other"] ["graph", "node", "among"] (defScope s_neighbours) := ⟨rfl, rfl, rfl, by decide +kernel, rfl, by decide +kernel, by decide +kernel⟩
theorem ok_neighbours {f fJ : Addr} {fd fdJ : FuncData} (D : Df K mg "neighbours" s_neighbours ["graph", "node", "among"] f fd) (DJ : Df K mg "joined" s_joined ["graph", "node", "other"] fJ fdJ) : FnOk P w K mg base CX0 2 f fd ["graph", "node", "among"] (spNeigh K) := by
  have GJ : FnOk P w K mg base CX0 1 fJ fdJ ["graph", "node", "other"] (spJoined K) := ok_joined DJ
  refine D.F.ok sc_neighbours (fun vs H Q E h => ?_) (fun cdv A outer s H vs Q E hr h => ?_)
  · obtain ⟨a, b, g, v, l, rfl, _⟩ := h
    rfl
  · obtain ⟨a, b, g, v, l, rfl, hS, hb, hv, hz, q⟩ := h
    refine ⟨_, pss_one (ps_ret (pe_lc rfl sc_neighbours.nd (pi_list (pv 2)) (own := [("other", 3)]) (blkOk_by (by rfl))
        (fun _ _ _ _ _ => pg_name (i := 3) sc_neighbours.nd rfl (Or.inl rfl))
        (fun _ _ _ _ _ => pts_one (pt_val (pe_call GJ hr (by rfl) DJ.m DJ.F.kp DJ.b .nil pass0 (pa_cons (pv 0) (pa_cons (pv 1) (pa_cons (pv 3) pa_nil))))))
        (fun _ _ _ _ _ => pv 3))), ?_⟩
    refine ⟨_, rfl, b, rfl, ⟨_, hb⟩, fun Dn hDn => ?_⟩
    refine lc_pick (r := l) (φ := nv) (fun u => joined g v u) nv hb hDn (by omega) ?_ ?_
    · intro u hu H2 s2 k1 k0 y1 y0
      refine ⟨rfl, _, rfl, _, rfl, _, rfl, a, g, v, u, rfl, s2.seq hS, hv, _, rfl, ?_⟩
      cases e : joined g v u with
      | true => exact ⟨_, rfl, y1 e H2 (Same.refl _)⟩
      | false => exact y0 e H2 (Same.refl _)
    · intro H1 s1 h1
      exact q H1 Dn s1 hDn h1
end
end Gp

/-! defs that make a lambda: where it stands, the table that it's kept in -/
namespace L2
open PySem PySem.Spec PyProof.Rows
def lamIn : Nat → Expr → Option Expr
  | 0, _ => none
  | _ + 1, .Lambda a b s p => some (.Lambda a b s p)
  | n + 1, .Call _ args kws _ => (args.findSome? (lamIn n)).orElse fun _ => kws.findSome? fun k => lamIn n k.value
  | n + 1, .BinOp a _ b _ => (lamIn n a).orElse fun _ => lamIn n b
  | n + 1, .List es _ => es.findSome? (lamIn n)
  | n + 1, .Compare a _ bs _ => (lamIn n a).orElse fun _ => bs.findSome? (lamIn n)
  | n + 1, .BoolOp _ es _ => es.findSome? (lamIn n)
  | n + 1, .UnaryOp _ e _ => lamIn n e
  | _ + 1, _ => none
def lamS : Nat → Stmt → Option Expr
  | 0, _ => none
  | n + 1, .Return (some e) _ => lamIn n e
  | n + 1, .Assign _ e _ => lamIn n e
  | n + 1, .For _ _ b _ _ => b.findSome? (lamS n)
  | n + 1, .If c b e _ => ((lamIn n c).orElse fun _ => b.findSome? (lamS n)).orElse fun _ => e.findSome? (lamS n)
  | _ + 1, _ => none
def lamE (st : Stmt) : Option Expr := (defBody st).findSome? (lamS 12)
def lamPos (st : Stmt) : Pos := match lamE st with | some (.Lambda _ _ _ p) => p | _ => ⟨0, 0, 0, 0⟩
def lamArgs (st : Stmt) : Arguments := match lamE st with | some (.Lambda a _ _ _) => a | _ => { posonlyargs := [], args := [], vararg := none, kwonlyargs := [], kw_defaults := [], kwarg := none, defaults := [] }
def lamScope (st : Stmt) : Scope := match lamE st with | some (.Lambda _ _ s _) => s | _ => { kind := .function, names := [], isGenerator := false, isCoroutine := false }
def lamBody (st : Stmt) : Expr := match lamE st with | some (.Lambda _ b _ _) => b | _ => .Constant .none 0 ⟨0, 0, 0, 0⟩
def tabOf (x : Str) (st : Stmt) (P : Addr) : Tab := ⟨P, (x ++ ".<locals>.") ++ "<lambda>", lamPos st⟩
/-- where the tables stand -/
def tabAt (K : PySem.W.Frag) (x : Str) : Addr × Addr := (PySem.W.tabIn K x).getD (0, 0)
def tabsOf (L : List (Str × Stmt)) (K : PySem.W.Frag) : List (Addr × Addr) := L.map fun p => tabAt K p.1
def TTof (L : List (Str × Stmt)) (K : PySem.W.Frag) : List Tab := L.map fun p => tabOf p.1 p.2 (tabAt K p.1).2
theorem tb_of {L : List (Str × Stmt)} {K : PySem.W.Frag} {H : Hp} (h : ∀ t ∈ tabsOf L K, H t.2 = some (.tbl #[])) : TB (TTof L K) H := fun t m => by
  obtain ⟨p, hp, rfl⟩ := List.mem_map.mp m
  exact .inl (h _ (List.mem_map_of_mem (f := fun p => tabAt K p.1) hp))
theorem tt_mem {L : List (Str × Stmt)} {K : PySem.W.Frag} {x : Str} {st : Stmt} {c P : Addr} (hp : (x, st) ∈ L) (h : PySem.W.tabIn K x = some (c, P)) : tabOf x st P ∈ TTof L K := by
  have := List.mem_map_of_mem (f := fun p : Str × Stmt => tabOf p.1 p.2 (tabAt K p.1).2) hp
  unfold tabAt at this
  rw [h] at this
  exact this
theorem tabs_mem {L : List (Str × Stmt)} {K : PySem.W.Frag} {x : Str} {st : Stmt} {c P : Addr} (hp : (x, st) ∈ L) (h : PySem.W.tabIn K x = some (c, P)) : (c, P) ∈ tabsOf L K := by
  have := List.mem_map_of_mem (f := fun p : Str × Stmt => tabAt K p.1) hp
  unfold tabAt at this
  rw [h] at this
  exact this
theorem one_of {T : List Tab} (h : (T.map (·.P)).Nodup) : ∀ t1 ∈ T, ∀ t2 ∈ T, t1.P = t2.P → t1 = t2 := fun t1 m1 t2 m2 e => by
  obtain ⟨i, hi⟩ := List.getElem?_of_mem m1
  obtain ⟨j, hj⟩ := List.getElem?_of_mem m2
  have : i = j := nd_ix h (x := t1.P) (by rw [List.getElem?_map, hi]; rfl) (by rw [List.getElem?_map, hj, e]; rfl)
  subst this
  rw [hi] at hj
  exact Option.some.inj hj
end L2
namespace Gp
open PySem PyProof.Rows L2
open PySem.Spec hiding Row
/-- what the tables and the top give all defs -/
structure Ct (T : List Tab) (mg : Str → Option Value) (base : Heap) : Prop where
  one : ∀ t1 ∈ T, ∀ t2 ∈ T, t1.P = t2.P → t1 = t2
  bm : BMain mg base
/-- a def that makes a lambda -/
structure Dl (T : List Tab) (K : PySem.W.Frag) (mg : Str → Option Value) (base : Heap) (x : Str) (st : Stmt) (ps : List Str) (f : Addr) (fd : FuncData) : Prop where
  d : Df K mg x st ps f fd
  cp : ∃ c P, fd.code = .ref c ∧ PySem.W.CodeHd base c P ∧ tabOf x st P ∈ T
/-- the lambda's object -/
abbrev lamObj (st : Stmt) (x : Str) (mg : Str → Option Value) (cl : List (Str × Addr)) (c : Addr) (ctv : Value) : Obj :=
  PySem.W.kla_obj "<lambda>" ((x ++ ".<locals>.") ++ "<lambda>") (lamArgs st) (lamBody st) (lamScope st) cl ((mg "__name__").getD .none) c ctv
theorem clo_nil : CloOk [] [] := ⟨fun x c h => by simp at h, fun x y c h => by simp at h, fun c h => by simp at h⟩
theorem clo_one (x : Str) (c : Addr) : CloOk [(x, c)] [x] := by
  have key : ∀ y d, List.lookup y [(x, c)] = some d → y = x ∧ d = c := fun y d h => by
    rw [List.lookup_cons] at h
    by_cases e : y = x
    · subst e; simp at h; exact ⟨rfl, h.symm⟩
    · rw [beq_eq_false_iff_ne.mpr e] at h; simp at h
  refine ⟨fun y d h => ?_, fun y z d h1 h2 => ?_, fun d h => ?_⟩
  · rw [(key y d h).1]; exact List.mem_cons_self
  · rw [(key y d h1).1, (key z d h2).1]
  · have : d = c := by simpa using h
    subst this
    exact ⟨x, by rw [List.lookup_cons]; simp⟩
theorem clo_two {x y : Str} {c d : Addr} (hxy : x ≠ y) (hcd : c ≠ d) (fv : List Str) (h1 : x ∈ fv) (h2 : y ∈ fv) : CloOk [(x, c), (y, d)] fv := by
  have key : ∀ z e, List.lookup z [(x, c), (y, d)] = some e → (z = x ∧ e = c) ∨ (z = y ∧ e = d) := fun z e h => by
    rw [List.lookup_cons] at h
    by_cases q : z = x
    · subst q; simp at h; exact .inl ⟨rfl, h.symm⟩
    · rw [beq_eq_false_iff_ne.mpr q, List.lookup_cons] at h
      by_cases q2 : z = y
      · subst q2; simp at h; exact .inr ⟨rfl, h.symm⟩
      · rw [beq_eq_false_iff_ne.mpr q2] at h; simp at h
  refine ⟨fun z e h => ?_, fun z z2 e a1 a2 => ?_, fun e h => ?_⟩
  · rcases key z e h with ⟨q, _⟩ | ⟨q, _⟩ <;> rw [q] <;> assumption
  · rcases key z e a1 with ⟨q, r⟩ | ⟨q, r⟩ <;> rcases key z2 e a2 with ⟨q', r'⟩ | ⟨q', r'⟩
    · rw [q, q']
    · exact absurd (r.symm.trans r') hcd
    · exact absurd (r'.symm.trans r) hcd
    · rw [q, q']
  · have : e = c ∨ e = d := by simpa using h
    rcases this with rfl | rfl
    · exact ⟨x, by rw [List.lookup_cons]; simp⟩
    · exact ⟨y, by rw [List.lookup_cons, beq_eq_false_iff_ne.mpr (Ne.symm hxy), List.lookup_cons]; simp⟩
theorem bst_top (f : Nat → Nat) (kf : Nat → Int) : ∀ j, (∀ i, i < j → kf i = (f i : Int)) → bst (fun i j => decide (kf i > kf j)) j = Gm.gtop f j
  | 0, _ => rfl
  | j + 1, h => by
    have ih := bst_top f kf j fun i hi => h i (by omega)
    show (if j = 0 then 0 else if decide (kf j > kf (bst (fun i j => decide (kf i > kf j)) j)) = true then j else bst (fun i j => decide (kf i > kf j)) j) = (if j = 0 then 0 else if f j > f (Gm.gtop f j) then j else Gm.gtop f j)
    by_cases z : j = 0
    · rw [if_pos z, if_pos z]
    · rw [if_neg z, if_neg z, ih, h j (by omega), h (Gm.gtop f j) (by have := Gm.gtop_lt f j (by omega); omega)]
      by_cases b : f j > f (Gm.gtop f j)
      · rw [if_pos b, if_pos (decide_eq_true (by omega))]
      · rw [if_neg b, if_neg (by rw [decide_eq_false (by omega)]; decide)]
end Gp

/-! reversed(..), comprehensions whose turns make lambdas, lambdas that a def is handed -/
namespace L2
open PySem PySem.Spec PyProof.Rows
theorem for_rev {K : PySem.W.Frag} {a : Addr} {xs : List V} {g : TG} {tb : TS} {D : Ends} {σ : L2.St} {H : Hp} (Pv : Nat → L2.St → Hp → Prop) (h0 : Pv 0 σ H) (hl : ∀ i σ H, i ≤ xs.length → Pv i σ H → SqL K H a xs)
    (hs : ∀ i x σ H, i < xs.length → xs[xs.length - 1 - i]? = some x → Pv i σ H → g x σ H fun σ2 H2 => tb { D with nx := Pv (i + 1), ct := Pv (i + 1), bk := D.nx } σ2 H2) (hd : ∀ σ H, Pv xs.length σ H → D.nx σ H) :
    ∃ W : Nat → Nat → L2.St → Hp → Prop, (∃ m, W 0 m σ H) ∧ ∀ i m σ H, W i m σ H →
      ((Itv K a xs.length).stop i H ∧ D.nx σ H) ∨ ((Itv K a xs.length).go i H ∧ ∃ N : L2.St → Hp → Prop, (∀ σ' H', N σ' H' → ∃ m', m' < m ∧ W (i + 1) m' σ' H') ∧ ∀ x H', (Itv K a xs.length).yld i H x H' → g x σ H' fun σ2 H2 => tb { D with nx := N, ct := N, bk := D.nx } σ2 H2) := by
  refine ⟨fun i m σ H => m = xs.length - i ∧ i ≤ xs.length ∧ Pv i σ H, ⟨xs.length, by simp, Nat.zero_le _, h0⟩, ?_⟩
  rintro i m σ H ⟨rfl, hi, p⟩
  have q := hl i σ H hi p
  by_cases hlt : i < xs.length
  · refine .inr ⟨⟨hlt, xs, xs[xs.length - 1 - i]'(by omega), q, List.getElem?_eq_getElem _⟩, Pv (i + 1), fun σ' H' p' => ⟨xs.length - (i + 1), by omega, rfl, hlt, p'⟩, fun x H' y => ?_⟩
    obtain ⟨e, y⟩ := y
    subst e
    exact hs i x σ _ hlt (y xs q) p
  · have e : i = xs.length := by omega
    subst e
    exact .inl ⟨Nat.le_refl _, hd σ H p⟩
/-- [f x for x in xs if p x], where a turn may make lambdas -/
theorem lc_pickG {α : Type} {T : List Tab} {K : PySem.W.Frag} {a : Addr} {r : List α} {φ : α → V} {g : TG} {tt : TT} {te : TE} {vs : List Nat} {σ : L2.St} {H1 : Hp} {D : Addr} {Qd : Hp → Prop} (p : α → Bool) (R : Hp → V → α → Prop) (hR : ∀ H H' v x, Gr T H H' → R H v x → R H' v x) (hRD : ∀ H v x xs, H D = some (.lst xs) → R H v x → ∀ ys, R (upd H D (.lst ys)) v x)
    (hS : SqL K H1 a (r.map φ)) (hD : H1 D = none) (hz : r.length ≤ 16777216)
    (hs : ∀ x ∈ r, ∀ H, Gr T H1 H → ∀ (k1 : VK) (k0 : Hp → Prop), (p x = true → ∀ v H4, Gr T H H4 → R H4 v x → k1 v H4) → (p x = false → ∀ H3, Gr T H H3 → k0 H3) → g (φ x) (wipe σ vs) H fun σ2 H2 => wipe σ2 vs = wipe σ vs ∧ tt σ2 H2 fun b H3 => if b = true then te σ2 H3 k1 else k0 H3)
    (hd : ∀ H us, Gr T H1 H → H D = some (.lst us) → Paired (R H) us (r.filter p) → Qd H) :
    ∃ W : Nat → Nat → Hp → Prop, (∃ m, W 0 m (upd H1 D (.lst []))) ∧ ∀ i m H, W i m H →
      ((Itl K a).stop i H ∧ Qd H) ∨ ((Itl K a).go i H ∧ ∃ Nx : Hp → Prop, (∀ H', Nx H' → ∃ m', m' < m ∧ W (i + 1) m' H') ∧ ∀ x H', (Itl K a).yld i H x H' → g x (wipe σ vs) H' fun σ2 H2 => wipe σ2 vs = wipe σ vs ∧ tt σ2 H2 fun b H3 =>
        if b = true then te σ2 H3 fun y H4 => ∃ acc, H4 D = some (.lst acc) ∧ acc.length < sizeLine ∧ Nx (upd H4 D (.lst (acc ++ [y]))) else Nx H3) := by
  have mono : ∀ {H H' : Hp} {us : List V} {l : List α}, (∀ v x, R H v x → R H' v x) → Paired (R H) us l → Paired (R H') us l := fun f h => Paired.mapP h f
  have snoc : ∀ {H : Hp} {us : List V} {l : List α} {v : V} {x : α}, Paired (R H) us l → R H v x → Paired (R H) (us ++ [v]) (l ++ [x]) := fun {H us l v x} h q => by
    induction h with
    | nil => exact .cons q .nil
    | cons a _ ih => exact .cons a ih
  refine lc_list (xs := r.map φ) (fun i H => Gr T H1 H ∧ ∃ us, H D = some (.lst us) ∧ Paired (R H) us ((r.take i).filter p)) ⟨(Gr.refl H1).put hD (.inl hD), [], upd_same, .nil⟩ (fun i H _ h => h.1.seq hS) ?_ ?_
  · rintro i y H hi ⟨s1, us, h1, p1⟩
    rw [List.getElem?_map] at hi
    cases e : r[i]? with
    | none => rw [e] at hi; cases hi
    | some x =>
      rw [e] at hi
      have hy : φ x = y := Option.some.inj hi
      subst hy
      have hlt : i < r.length := (List.getElem?_eq_some_iff.mp e).1
      have hx : r[i] = x := (List.getElem?_eq_some_iff.mp e).2
      have tk : r.take (i + 1) = r.take i ++ [x] := by rw [List.take_succ_eq_append_getElem hlt, hx]
      refine hs x (List.mem_of_getElem? e) H s1 _ _ (fun px v H4 s4 rv => ?_) (fun px H3 s3 => ?_)
      · have h4 := s4.lst h1
        refine ⟨_, h4, ?_, ?_, us ++ [v], upd_same, ?_⟩
        · have e1 := Paired.length p1
          rw [e1, sizeLine_eq]
          have := List.length_filter_le p (r.take i)
          rw [List.length_take] at this
          omega
        · exact (s1.trans s4).put hD (.inr ⟨_, h4⟩)
        · rw [tk, List.filter_append, List.filter_cons_of_pos px, List.filter_nil]
          exact snoc (mono (fun v x q => hRD _ _ _ _ h4 (hR _ _ _ _ s4 q) _) p1) (hRD _ _ _ _ h4 rv _)
      · refine ⟨s1.trans s3, us, s3.lst h1, ?_⟩
        rw [tk, List.filter_append, List.filter_cons_of_neg (by rw [px]; simp), List.filter_nil, List.append_nil]
        exact mono (fun v x q => hR _ _ _ _ s3 q) p1
  · rintro H ⟨s1, us, h1, p1⟩
    rw [List.length_map, List.take_length] at p1
    exact hd H us s1 h1 p1
end L2
namespace Gp
open PySem PyProof.Rows L2
open PySem.Spec hiding Row
open Gg (Graph Row)
/-- a lambda of two parameters, a row and a choice: whether the choice fits -/
def CbOk (P : Program) (w : World) (K : PySem.W.Frag) (mg : Str → Option Value) (base : Heap) (T : List Tab) (kk : Nat) (H : Hp) (f : Addr) (ch : List Nat) (k : Nat) (p : Row → Nat → Bool) : Prop :=
  ∃ (fd : FuncData) (ps : List Str) (sp : Sp) (o : Obj), FnOk P w K mg base CX0 kk f fd ps sp ∧ (∀ (s : Shared) (us : List Value), us.length = ps.length → BindsTo s fd ⟨us, []⟩ (ps.zip us)) ∧ H f = some (fz o) ∧ (∃ oc od fd' sl, o = ⟨oc, od, .func fd', sl⟩) ∧
    ∀ H1, Gr T H H1 → ∀ (a : Addr) (r : Row) (v : Nat), H1 a = some (.lst (gv r)) → r.length < k → Gm.Built p ch r → v ∈ ch → ∀ Q : VK, (∀ H2, Gr T H1 H2 → Q (.bl (p r v)) H2) → sp [.ref a, nv v] H1 Q E0
/-- a row of the stack: none of what stood at the start, not the stack itself -/
def RwX (H0 : Hp) (lw : Addr) (Hc : Hp) (v : V) (r : Row) : Prop := ∃ a, v = .ref a ∧ H0 a = none ∧ a ≠ lw ∧ Hc a = some (.lst (gv r))
theorem RwX.mono {H0 Hc Hd : Hp} {lw : Addr} {v : V} {r : Row} (e : ∀ a xs, a ≠ lw → Hc a = some (.lst xs) → Hd a = some (.lst xs)) (h : RwX H0 lw Hc v r) : RwX H0 lw Hd v r := by
  obtain ⟨a, h1, h2, h3, h4⟩ := h
  exact ⟨a, h1, h2, h3, e _ _ h3 h4⟩
theorem Paired.snoc' {α β : Type} {F : α → β → Prop} {us : List α} {st : List β} {u : α} {r : β} (h : Paired F us st) (q : F u r) : Paired F (us ++ [u]) (st ++ [r]) := by
  induction h with
  | nil => exact .cons q .nil
  | cons a _ ih => exact .cons a ih
theorem Paired.unsnoc {α β : Type} {F : α → β → Prop} : ∀ {st : List β} {us : List α} {r : β}, Paired F us (st ++ [r]) → ∃ us0 u, us = us0 ++ [u] ∧ Paired F us0 st ∧ F u r
  | [], us, r, h => by
    cases h with
    | cons a t =>
      cases t
      exact ⟨[], _, rfl, .nil, a⟩
  | b :: st, us, r, h => by
    cases h with
    | cons a t =>
      obtain ⟨us0, u, e, h1, h2⟩ := Paired.unsnoc t
      subst e
      exact ⟨_ :: us0, u, rfl, .cons a h1, h2⟩
end Gp

/-! lambdas handed to first_row; one or two names from around -/
namespace Gp
open PySem PyProof.Rows L2
open PySem.Spec hiding Row
open Gg (Graph Row)
section
variable {P : Program} {w : World} {K : PySem.W.Frag} {mg : Str → Option Value} {base : Heap} {k : Nat} {f c : Addr} {name qual : Str} {params : Arguments} {body : Expr} {scope : Scope} {cl : List (Str × Addr)} {pm ct : Value} {ps fv : List Str} {t : TE} {ws : List V} {T : List Tab} {H : Hp}
theorem cb_lam {ch : List Nat} {n : Nat} {p : Row → Nat → Bool} (S : LamScope ps fv scope) (C : CloOk cl fv) (hp : ps.length = 2) (bb : LamBinds params ps) (L : LamAt H f (PySem.W.kla_obj name qual params body scope cl pm c ct) (.ref c) qual cl fv ws)
    (hb : ∀ (A : Around) (outer : List Env) (s : Shared) (H : Hp), Room k (A.deeper (PySem.W.envX qual scope s.heap.objs.size f (.ref c) cl)) → PE (cxLam P w K mg base (ps ++ fv) qual scope f (.ref c) cl A outer s H) body t)
    (ht : ∀ H1, Gr T (hid (cl.map (·.2)) H) H1 → ∀ (a : Addr) (r : Row) (v : Nat), H1 a = some (.lst (gv r)) → r.length < n → Gm.Built p ch r → v ∈ ch → ∀ Q : VK, (∀ H2, Gr T H1 H2 → Q (.bl (p r v)) H2) → t (([V.ref a, nv v] ++ ws).map some) H1 Q) :
    CbOk P w K mg base T (k + 1) H f ch n p := by
  refine ⟨_, ps, _, _, fn_lamT (name := name) (params := params) (pm := pm) (ct := ct) (ws := ws) S C hb, fun s us hl => .of_eq (bb _ _ _ _ _ _ _ _ us hl), L.obj, ⟨_, _, _, _, rfl⟩, fun H1 g a r v ha hr hbt hv Q hQ => ⟨hp.symm, L.gr g, ?_⟩⟩
  have c0 := L.cells C
  have c1 := c0.gr g
  refine ht _ (g.hide c0) a r v (hid_keep c1 ha fun ob z => by cases z) hr hbt hv _ fun H2 g2 hn => ?_
  exact hQ _ (g2.back c1 hn)
/-- the one cell that's shown -/
theorem lam_one {cells : List (Str × Addr)} {σ : L2.St} {x : Str} {i : Nat} {cs : List (Addr × Obj)} {n : Addr} {v : V} {o : Obj} {cdv : Value} (hc : CellsOf cells σ [(x, i)] cs) (hx : cells.lookup x = some n) (hσ : σ[i]? = some (some v)) (hf : H f = some (fz o)) (hcode : CodeAt H cdv qual) (hn : ∀ q ∈ cs, H q.1 = none) :
    LamAt (shw cs H) f o cdv qual [(x, n)] [x] [v] ∧ cs.map (·.1) = [n] ∧ ∀ q ∈ cs, ∃ u, q.2.data = .cell u := by
  cases hc with
  | cons a b =>
    cases b with
    | nil =>
      rename_i q
      obtain ⟨a1, u, v', a2, a3, a4⟩ := a
      rw [hx] at a1
      rw [hσ] at a3
      have e1 : n = q.1 := Option.some.inj a1
      have e2 : v = v' := Option.some.inj (Option.some.inj a3)
      subst e1 e2
      refine ⟨⟨shw_keep hn hf, hcode.same (same_shw hn), rfl, fun j y hj => ?_⟩, rfl, fun q' hq' => ?_⟩
      · cases j with
        | zero =>
          have : x = y := by simpa using hj
          subst this
          exact ⟨q.1, q.2, u, v, by rw [List.lookup_cons]; simp, shw_in (by rw [List.lookup_cons]; simp), a2, rfl, a4⟩
        | succ j => simp at hj
      · rw [List.mem_singleton.mp hq']
        exact ⟨_, a2⟩
/-- two of them -/
theorem lam_two {cells : List (Str × Addr)} {σ : L2.St} {x y : Str} {i j : Nat} {cs : List (Addr × Obj)} {n m : Addr} {v z : V} {o : Obj} {cdv : Value} (hc : CellsOf cells σ [(x, i), (y, j)] cs) (hx : cells.lookup x = some n) (hy : cells.lookup y = some m) (hnm : n ≠ m) (hxy : x ≠ y) (hσ : σ[i]? = some (some v)) (hσ2 : σ[j]? = some (some z)) (hf : H f = some (fz o)) (hcode : CodeAt H cdv qual) (hn : ∀ q ∈ cs, H q.1 = none) :
    LamAt (shw cs H) f o cdv qual [(y, m), (x, n)] [x, y] [v, z] ∧ cs.map (·.1) = [n, m] ∧ ∀ q ∈ cs, ∃ u, q.2.data = .cell u := by
  cases hc with
  | cons a b =>
    cases b with
    | cons a' b =>
      cases b with
      | nil =>
        rename_i q r
        obtain ⟨a1, u, v', a2, a3, a4⟩ := a
        obtain ⟨b1, u', z', b2, b3, b4⟩ := a'
        rw [hx] at a1
        rw [hσ] at a3
        rw [hy] at b1
        rw [hσ2] at b3
        have e1 : n = q.1 := Option.some.inj a1
        have e2 : v = v' := Option.some.inj (Option.some.inj a3)
        have e3 : m = r.1 := Option.some.inj b1
        have e4 : z = z' := Option.some.inj (Option.some.inj b3)
        subst e1 e2 e3 e4
        have l1 : List.lookup q.1 [q, r] = some q.2 := by rw [List.lookup_cons]; simp
        have l2 : List.lookup r.1 [q, r] = some r.2 := by
          rw [List.lookup_cons, beq_eq_false_iff_ne.mpr (Ne.symm hnm), List.lookup_cons]; simp
        refine ⟨⟨shw_keep hn hf, hcode.same (same_shw hn), rfl, fun k w hk => ?_⟩, rfl, fun q' hq' => ?_⟩
        · match k with
          | 0 =>
            have : x = w := by simpa using hk
            subst this
            exact ⟨q.1, q.2, u, v, by rw [List.lookup_cons, beq_eq_false_iff_ne.mpr hxy, List.lookup_cons]; simp, shw_in l1, a2, rfl, a4⟩
          | 1 =>
            have : y = w := by simpa using hk
            subst this
            exact ⟨r.1, r.2, u', z, by rw [List.lookup_cons]; simp, shw_in l2, b2, rfl, b4⟩
          | k + 2 => simp at hk
        · rcases List.mem_cons.mp hq' with rfl | hq'
          · exact ⟨_, a2⟩
          · rw [List.mem_singleton.mp hq']
            exact ⟨_, b2⟩
/-- what's new behind a call with the cells shown -/
theorem new_shown {cs : List (Addr × Obj)} {H' : Hp} {l : Addr} {xs : List V} (h : shw cs H l = none) (h' : H' l = some (.lst xs)) : H l = none ∧ hid (cs.map (·.1)) H' l = some (.lst xs) := by
  have hl : l ∉ cs.map (·.1) := fun m => by
    obtain ⟨o, e, _⟩ := lookup_some_of m
    rw [shw_in e] at h
    cases h
  rw [shw_out hl] at h
  exact ⟨h, by rw [hid_out hl]; exact h'⟩
end
end Gp

/-! a key that is a row's length and the row -/
namespace Gp
open PySem PyProof.Rows L2
open PySem.Spec hiding Row
open Gg (Graph Row)
def KeyRow (rows : Nat → Row) : Hp → Nat → V → Prop := fun H i kv => ∃ t a, kv = .ref t ∧ H t = some (.tup [.int ((rows i).length : Nat), .ref a]) ∧ H a = some (.lst (gv (rows i)))
theorem keyRow_stab {T : List Tab} (rows : Nat → Row) : ∀ H H' i kv, Gr T H H' → KeyRow rows H i kv → KeyRow rows H' i kv := fun H H' i kv g h => by
  obtain ⟨t, a, h1, h2, h3⟩ := h
  exact ⟨t, a, h1, g.tup h2, g.lst h3⟩
theorem gv_inj {a b : Row} (h : gv a = gv b) : a = b := by
  induction a generalizing b with
  | nil =>
    cases b with
    | nil => rfl
    | cons _ _ => cases h
  | cons x a ih =>
    cases b with
    | nil => cases h
    | cons y b =>
      have h : nv x :: gv a = nv y :: gv b := h
      injection h with h1 h2
      have h1 : V.int (x : Int) = V.int (y : Int) := h1
      injection h1 with h1
      have : x = y := by omega
      rw [this, ih h2]
theorem lexN_self : ∀ a : Row, lexN a a = false
  | [] => rfl
  | x :: a => by
    show (if x = x then lexN a a else decide (x < x)) = false
    rw [if_pos rfl]
    exact lexN_self a
theorem vals_gv {r : Row} {us : List Value} (h : Vals (gv r) us) : ∀ j, j < r.length → ∃ t, us[j]? = some (.int ((r.getD j 0 : Nat) : Int) t) := fun j hj => by
  obtain ⟨u, hu, t, rfl⟩ := Vals.get (x := nv (r.getD j 0)) h (gv_get hj)
  exact ⟨t, hu⟩
section
variable {X : Cx} {T : List Tab} {H0 : Hp}
theorem rows_at {A : Around} {pins : List (Addr × Obj)} {σ : L2.St} {H : Hp} {s : Shared} (I : Inv X pins σ H s) {a1 a2 : Addr} {r1 r2 : Row} (h1 : H a1 = some (.lst (gv r1))) (h2 : H a2 = some (.lst (gv r2))) (hu : A.units < cLine) :
    SeqAt.EqAt A s (.ref a1) (.ref a2) (decide (r1 = r2)) ∧ (r1.length = r2.length → LtAt A s (.ref a1) (.ref a2) (lexN r1 r2)) := by
  obtain ⟨its1, v1, p1, z1⟩ := I.list (SqL.of (K := X.K) h1)
  obtain ⟨its2, v2, p2, z2⟩ := I.list (SqL.of (K := X.K) h2)
  have s1 : its1.toArray.size = r1.length := by rw [List.size_toArray, ← v1.length, gv_len]
  have s2 : its2.toArray.size = r2.length := by rw [List.size_toArray, ← v2.length, gv_len]
  have at1 : ∀ j (h : j < its1.toArray.size), ∃ t, its1.toArray[j] = .int ((r1.getD j 0 : Nat) : Int) t := fun j h => by
    obtain ⟨t, e⟩ := vals_gv v1 j (by rw [← s1]; exact h)
    refine ⟨t, ?_⟩
    have : its1[j]? = some its1.toArray[j] := by simp
    rw [this] at e
    exact Option.some.inj e
  have at2 : ∀ j (h : j < its2.toArray.size), ∃ t, its2.toArray[j] = .int ((r2.getD j 0 : Nat) : Int) t := fun j h => by
    obtain ⟨t, e⟩ := vals_gv v2 j (by rw [← s2]; exact h)
    refine ⟨t, ?_⟩
    have : its2[j]? = some its2.toArray[j] := by simp
    rw [this] at e
    exact Option.some.inj e
  have hE : ∀ j (h1 : j < its1.toArray.size) (h2 : j < its2.toArray.size), SeqAt.EqAt A.in1 s its1.toArray[j] its2.toArray[j] (decide (r1.getD j 0 = r2.getD j 0)) := fun j h1 h2 => by
    obtain ⟨t1, e1⟩ := at1 j h1
    obtain ⟨t2, e2⟩ := at2 j h2
    rw [e1, e2]
    have := SeqAt.EqAt.int_int (A := A.in1) (s := s) ((r1.getD j 0 : Nat) : Int) t1 ((r2.getD j 0 : Nat) : Int) t2
    have e : (((r1.getD j 0 : Nat) : Int) == ((r2.getD j 0 : Nat) : Int)) = decide (r1.getD j 0 = r2.getD j 0) := by
      rw [Bool.beq_eq_decide_eq]
      by_cases z : r1.getD j 0 = r2.getD j 0
      · rw [decide_eq_true z, decide_eq_true (by rw [z])]
      · rw [decide_eq_false z, decide_eq_false (by omega)]
    rw [e] at this
    exact this
  refine ⟨?_, fun hl => ?_⟩
  · by_cases ea : a1 = a2
    · subst ea
      rw [h1] at h2
      have : r1 = r2 := gv_inj (by have := Option.some.inj h2; injection this)
      rw [decide_eq_true this]
      exact SeqAt.EqAt.same _
    · by_cases el : r1.length = r2.length
      · have := SeqAt.RcAt.lists (A := A) (s := s) (e := fun j => decide (r1.getD j 0 = r2.getD j 0)) p1.isList p2.isList (by rw [s1, s2, el]) hu hE
        have ee : (List.range its1.toArray.size).all (fun j => decide (r1.getD j 0 = r2.getD j 0)) = decide (r1 = r2) := by
          rw [s1]
          by_cases z : r1 = r2
          · rw [decide_eq_true z, List.all_eq_true]
            intro j _
            rw [z]; exact decide_eq_true rfl
          · rw [decide_eq_false z]
            cases q : (List.range r1.length).all (fun j => decide (r1.getD j 0 = r2.getD j 0)) with
            | false => rfl
            | true =>
              exfalso
              refine z (List.ext_getElem el fun j h1 h2 => ?_)
              have := of_decide_eq_true (List.all_eq_true.mp q j (List.mem_range.mpr h1))
              rw [List.getD_eq_getElem?_getD, List.getD_eq_getElem?_getD, List.getElem?_eq_getElem h1, List.getElem?_eq_getElem h2] at this
              exact this
        rw [ee] at this
        exact SeqAt.EqAt.of_refs ea this
      · have := SeqAt.RcAt.lists_lengths (A := A) (s := s) p1.isList p2.isList (by rw [s1, s2, bne_iff_ne]; exact el) hu
        rw [decide_eq_false (fun z => el (by rw [z]))]
        exact SeqAt.EqAt.of_refs ea this
  · have := LtAt.lists (A := A) (s := s) (e := fun j => decide (r1.getD j 0 = r2.getD j 0)) (r := fun j => decide (r1.getD j 0 < r2.getD j 0)) p1.isList p2.isList (by rw [s1, s2, hl]) hu hE (fun j h1 h2 _ => by
      obtain ⟨t1, e1⟩ := at1 j h1
      obtain ⟨t2, e2⟩ := at2 j h2
      rw [e1, e2]
      have := LtAt.ints (A := A.in1) (s := s) ((r1.getD j 0 : Nat) : Int) t1 ((r2.getD j 0 : Nat) : Int) t2
      have e : decide (((r1.getD j 0 : Nat) : Int) < ((r2.getD j 0 : Nat) : Int)) = decide (r1.getD j 0 < r2.getD j 0) := by
        by_cases z : r1.getD j 0 < r2.getD j 0
        · rw [decide_eq_true z, decide_eq_true (by omega)]
        · rw [decide_eq_false z, decide_eq_false (by omega)]
      rw [e] at this
      exact this)
    rw [s1, lexG_lexN r1 r2 _ _ 0 hl (fun i _ => by rw [Nat.zero_add]; exact ⟨rfl, rfl⟩)] at this
    exact this
theorem keyRow_lt (rows : Nat → Row) (hu : X.A.units + 8 < cLine) : KeyCmp X T H0 (KeyRow rows) .Lt (fun i j => rowLt (rows i) (rows j)) := by
  intro i j pins σ s H ki kj u v Q E I g hi hj ru rv h
  obtain ⟨t1, a1, rfl, ht1, ha1⟩ := hi
  obtain ⟨t2, a2, rfl, ht2, ha2⟩ := hj
  have ru : u = .ref t1 := ru
  have rv : v = .ref t2 := rv
  subst ru rv
  obtain ⟨its1, v1, p1, _⟩ := I.tuple (SqT.of (K := X.K) ht1)
  obtain ⟨its2, v2, p2, _⟩ := I.tuple (SqT.of (K := X.K) ht2)
  obtain ⟨x1, y1, rfl, ⟨k1, rfl⟩, q1⟩ := Vals.two v1
  obtain ⟨x2, y2, rfl, ⟨k2, rfl⟩, q2⟩ := Vals.two v2
  have q1 : y1 = .ref a1 := q1
  have q2 : y2 = .ref a2 := q2
  subst q1 q2
  have R := rows_at (A := X.A.in1.in1) I ha1 ha2 (by show X.A.units + 1 + 1 < cLine; omega)
  have := LtAt.tuples (A := X.A.in1) (s := s) (e := fun k => if k = 0 then decide ((rows i).length = (rows j).length) else decide (rows i = rows j)) (r := fun k => if k = 0 then decide ((rows i).length < (rows j).length) else lexN (rows i) (rows j)) p1 p2 rfl (by show X.A.units + 1 < cLine; omega)
    (fun k h1 h2 => by
      match k, h1, h2 with
      | 0, _, _ =>
        have := SeqAt.EqAt.int_int (A := X.A.in1.in1) (s := s) (((rows i).length : Nat) : Int) k1 (((rows j).length : Nat) : Int) k2
        have e : ((((rows i).length : Nat) : Int) == (((rows j).length : Nat) : Int)) = decide ((rows i).length = (rows j).length) := by
          rw [Bool.beq_eq_decide_eq]
          by_cases z : (rows i).length = (rows j).length
          · rw [decide_eq_true z, decide_eq_true (by rw [z])]
          · rw [decide_eq_false z, decide_eq_false (by omega)]
        rw [e] at this
        exact this
      | 1, _, _ => exact R.1
      | k + 2, h1, _ => exact absurd h1 (by simp)) (fun k h1 h2 hpre hne => by
      match k, h1, h2 with
      | 0, _, _ =>
        have := LtAt.ints (A := X.A.in1.in1) (s := s) (((rows i).length : Nat) : Int) k1 (((rows j).length : Nat) : Int) k2
        have e : decide ((((rows i).length : Nat) : Int) < (((rows j).length : Nat) : Int)) = decide ((rows i).length < (rows j).length) := by
          by_cases z : (rows i).length < (rows j).length
          · rw [decide_eq_true z, decide_eq_true (by omega)]
          · rw [decide_eq_false z, decide_eq_false (by omega)]
        rw [e] at this
        exact this
      | 1, _, _ => exact R.2 (of_decide_eq_true (hpre 0 (by decide)))
      | k + 2, h1, _ => exact absurd h1 (by simp))
  refine this X.prog X.w E Q ?_
  have e : lexG (fun k => if k = 0 then decide ((rows i).length = (rows j).length) else decide (rows i = rows j)) (fun k => if k = 0 then decide ((rows i).length < (rows j).length) else lexN (rows i) (rows j)) 2 0 = rowLt (rows i) (rows j) := by
    show (if decide ((rows i).length = (rows j).length) = true then (if decide (rows i = rows j) = true then false else lexN (rows i) (rows j)) else decide ((rows i).length < (rows j).length)) = _
    unfold rowLt
    by_cases z : (rows i).length = (rows j).length
    · rw [if_pos (decide_eq_true z), if_pos z]
      by_cases y : rows i = rows j
      · rw [if_pos (decide_eq_true y), y, lexN_self]
      · rw [if_neg (by rw [decide_eq_false y]; decide)]
    · rw [if_neg (by rw [decide_eq_false z]; decide), if_neg z]
  show Q (.bool (lexG _ _ 2 0)) s
  rw [e]
  exact h s I
end
end Gp

/-! tuples of nodes compared; shapes -/
namespace Gp
open PySem PyProof.Rows L2
open PySem.Spec hiding Row
open Gg (Graph Row joined isGraph nodes)
theorem all_eq_rows (a b : Row) : ((List.range (min a.length b.length)).all (fun j => decide (a.getD j 0 = b.getD j 0)) && a.length == b.length) = decide (a = b) := by
  by_cases z : a = b
  · subst z
    rw [decide_eq_true rfl, Bool.and_eq_true]
    refine ⟨?_, by simp⟩
    rw [List.all_eq_true]
    intro j _
    exact decide_eq_true rfl
  · rw [decide_eq_false z]
    by_cases el : a.length = b.length
    · cases q : (List.range (min a.length b.length)).all (fun j => decide (a.getD j 0 = b.getD j 0)) with
      | false => rfl
      | true =>
        exfalso
        refine z (List.ext_getElem el fun j h1 h2 => ?_)
        have := of_decide_eq_true (List.all_eq_true.mp q j (List.mem_range.mpr (by omega)))
        rw [List.getD_eq_getElem?_getD, List.getD_eq_getElem?_getD, List.getElem?_eq_getElem h1, List.getElem?_eq_getElem h2] at this
        exact this
    · have : (a.length == b.length) = false := beq_eq_false_iff_ne.mpr el
      rw [this, Bool.and_false]
def rEqT (K : PySem.W.Frag) : R2 := fun x y H Q => ∃ a b r1 r2, x = .ref a ∧ y = .ref b ∧ SqT K H a (gv r1) ∧ SqT K H b (gv r2) ∧ Q (.bl (decide (r1 = r2))) H
theorem eqAt_nat {A : Around} {s : Shared} (x y : Nat) (t1 t2 : Tok) : SeqAt.EqAt A s (.int (x : Int) t1) (.int (y : Int) t2) (decide (x = y)) := by
  have := SeqAt.EqAt.int_int (A := A) (s := s) (x : Int) t1 (y : Int) t2
  have e : ((x : Int) == (y : Int)) = decide (x = y) := by
    rw [Bool.beq_eq_decide_eq]
    by_cases z : x = y
    · rw [decide_eq_true z, decide_eq_true (by rw [z])]
    · rw [decide_eq_false z, decide_eq_false (by omega)]
  rw [e] at this
  exact this
theorem op_eqT {X : Cx} (hu : X.A.units < cLine) : OpR X (compareOp .Eq) (rEqT X.K) := by
  intro pins s σ H x y v u Q I rx ry h
  obtain ⟨a, b, r1, r2, rfl, rfl, h1, h2, q⟩ := h
  have rx : v = .ref a := rx
  have ry : u = .ref b := ry
  subst rx ry
  obtain ⟨its1, v1, p1, _⟩ := I.tuple h1
  obtain ⟨its2, v2, p2, _⟩ := I.tuple h2
  have s1 : its1.toArray.size = r1.length := by rw [List.size_toArray, ← v1.length, gv_len]
  have s2 : its2.toArray.size = r2.length := by rw [List.size_toArray, ← v2.length, gv_len]
  refine SeqAt.eq_tupleAt (e := fun j => decide (r1.getD j 0 = r2.getD j 0)) p1 p2 hu (fun j h1 h2 => ?_) ?_
  · obtain ⟨t1, e1⟩ := vals_gv v1 j (by rw [← s1]; exact h1)
    obtain ⟨t2, e2⟩ := vals_gv v2 j (by rw [← s2]; exact h2)
    have g1 : its1[j]? = some its1.toArray[j] := by simp
    have g2 : its2[j]? = some its2.toArray[j] := by simp
    rw [g1] at e1
    rw [g2] at e2
    rw [Option.some.inj e1, Option.some.inj e2]
    exact eqAt_nat _ _ _ _
  · rw [s1, s2, all_eq_rows]
    exact ⟨.bl _, H, I, rfl, q⟩
/-- a shape stands at v -/
def ShV (K : PySem.W.Frag) (H : Hp) (v : V) (sh : List Row) : Prop := ∃ p us, v = .ref p ∧ (SqL K H p us ∨ SqT K H p us) ∧ Paired (fun u s => ∃ q, u = V.ref q ∧ SqT K H q (gv s)) us sh
theorem ShV.gr {K : PySem.W.Frag} {T : List Tab} {H H' : Hp} {v : V} {sh : List Row} (h : ShV K H v sh) (g : Gr T H H') : ShV K H' v sh := by
  obtain ⟨p, us, e, h1, h2⟩ := h
  refine ⟨p, us, e, h1.elim (fun z => .inl (g.seq z)) (fun z => .inr (g.seqT z)), Paired.mapP h2 fun u s ⟨q, e, z⟩ => ⟨q, e, g.seqT z⟩⟩
theorem ShV.hid {K : PySem.W.Frag} {H : Hp} {cs : List Addr} (c : Cl H cs) {v : V} {sh : List Row} (h : ShV K H v sh) : ShV K (hid cs H) v sh := by
  obtain ⟨p, us, e, h1, h2⟩ := h
  refine ⟨p, us, e, h1.elim (fun z => .inl (hid_seq c z)) (fun z => .inr (hid_seqT c z)), Paired.mapP h2 fun u s ⟨q, e, z⟩ => ⟨q, e, hid_seqT c z⟩⟩
theorem ShV.same {K : PySem.W.Frag} {H H' : Hp} {v : V} {sh : List Row} (h : ShV K H v sh) (g : Same H H') : ShV K H' v sh := h.gr (Gr.of (T := []) g)
end Gp

namespace Gp
open PySem PyProof.Rows L2
open PySem.Spec hiding Row
open Gg (Graph Row joined isGraph nodes)
section
variable {P : Program} {w : World} {K : PySem.W.Frag} {mg : Str → Option Value} {base : Heap}
/-- the first row of k choices in which each fits those ahead of it -/
def spFirstRow (P : Program) (w : World) (K : PySem.W.Frag) (mg : Str → Option Value) (base : Heap) (T : List Tab) (kk : Nat) : Sp := fun vs H Q _ => ∃ (k : Nat) (c f : Addr) (ch : List Nat) (p : Row → Nat → Bool), vs = [nv k, .ref c, .ref f] ∧ SqL K H c (gv ch) ∧ ch.length ≤ 256 ∧ k ≤ 256 ∧ CbOk P w K mg base T kk H f ch k p ∧
  ∀ (H' : Hp) (l : Addr), Gr T H H' → H l = none → H' l = some (.lst (gv ((Gm.dfs p ch k k []).getD []))) → Q (.ref l) H'
theorem sc_first_row : FnScope ["length", "choices", "fits", "waiting", "row", "choice"] ["length", "choices", "fits"] (defScope s_first_row) := ⟨rfl, rfl, rfl, by decide +kernel, rfl, by decide +kernel, by decide +kernel⟩
theorem ok_first_row {f : Addr} {fd : FuncData} {T : List Tab} {kk : Nat} (D : Df K mg "first_row" s_first_row ["length", "choices", "fits"] f fd) (B : Bn mg) : FnOk P w K mg base CX0 (kk + 1) f fd ["length", "choices", "fits"] (spFirstRow P w K mg base T kk) := by
  refine D.F.ok sc_first_row (fun vs H Q E h => ?_) (fun cdv A outer s H vs Q E hr h => ?_)
  · obtain ⟨k, c, f, ch, p, rfl, _⟩ := h
    rfl
  · obtain ⟨k, c, f, ch, p, rfl, hS, hch, hk, ⟨fdL, psL, spL, oL, FL, bL, hfL, hoL, cbL⟩, q⟩ := h
    refine ⟨_, pss_cons (ps_set (i := 3) sc_first_row.nd rfl (Or.inl rfl) (pe_lst (pa_cons (pe_lst pa_nil) pa_nil)))
      (pss_cons (ps_while PassesOwn.never (pt_truth (pv 3) (fun _ => rfl))
        (pss_cons (ps_set (i := 4) sc_first_row.nd rfl (Or.inl rfl) (pe_bm0 PySem.F.plainAttrs_list PySem.F.slot_list_pop PySem.F.type_list_pop mt_pop (pv 3)))
        (pss_cons (ps_if (pt_cmpR op_eq (pe_callB call_len_seq (by rfl) B.len PySem.boot_len (pa_cons (pv 4) pa_nil)) (pv 0) (nomark _)) (pss_one (ps_ret (pv 4))) pss_nil)
        (pss_one (ps_for PassesOwn.never rfl (pi_reversed (by rfl) B.reversed (pa_cons (pv 1) pa_nil)) (pg_name (i := 5) sc_first_row.nd rfl (Or.inl rfl))
          (pss_one (ps_if (pt_val (pe_callV (i := 2) hr rfl (Or.inl rfl) (pa_cons (pv 4) (pa_cons (pv 5) pa_nil))))
            (pss_one (ps_expr (pe_bm PySem.F.plainAttrs_list PySem.F.slot_list_append PySem.F.type_list_append mt_append (pv 3) (pa_cons (pe_op op_cat (pv 4) (pe_lst (pa_cons (pv 5) pa_nil))) pa_nil)))) pss_nil)))))))
      (pss_one (ps_ret (pe_lst pa_nil)))), ?_⟩
    -- waiting = [[]]
    refine ⟨Nat.zero_le _, fun r0 hr0 => ⟨line1000' (by show 1 ≤ 1000; decide), fun lw hlw => ?_⟩⟩
    have g0 : Gr T H (upd H r0 (.lst [])) := (Gr.refl H).new hr0
    have g1 : Gr T H (upd (upd H r0 (.lst [])) lw (.lst [.ref r0])) := g0.new hlw
    have hlw0 : H lw = none := by
      by_cases z : lw = r0
      · rw [z]; exact hr0
      · rw [← upd_ne z (H := H) (o := .lst [])]; exact hlw
    have r0lw : r0 ≠ lw := fun z => by rw [← z, upd_same] at hlw; cases hlw
    -- while waiting
    refine ⟨fun m σ H1 => ∃ (v4 v5 : Option V) (us : List V) (st : List Row), σ = [some (nv k), some (.ref c), some (.ref f), some (.ref lw), v4, v5] ∧ Gr T H H1 ∧ H1 lw = some (.lst us) ∧ Paired (RwX H lw H1) us st ∧
        (∀ r ∈ st, r.length ≤ k ∧ Gm.Built p ch r) ∧ (∀ (i : Nat) (r : Row), st[i]? = some r → i ≤ ch.length * r.length) ∧ Gm.stack p ch k st = Gm.dfs p ch k k [] ∧ m = Gm.load ch.length k st,
      ⟨_, none, none, [.ref r0], [[]], rfl, g1, upd_same, .cons ⟨r0, rfl, hr0, r0lw, by rw [upd_ne r0lw, upd_same]; rfl⟩ .nil, fun r hr => by rw [List.mem_singleton.mp hr]; exact ⟨Nat.zero_le _, Gm.built_nil p ch⟩, fun i r hi => ?_, ?_, rfl⟩, ?_⟩
    · cases i with
      | zero => exact Nat.zero_le _
      | succ i => simp at hi
    · show List.findSome? (Gm.dfrom p ch k) [[]] = _
      have : Gm.dfrom p ch k [] = Gm.dfs p ch k k [] := rfl
      rw [List.findSome?_cons, this]
      cases Gm.dfs p ch k k [] <;> rfl
    rintro m σ H1 ⟨v4, v5, us, st, rfl, gH, hw1, pr, inv, pos, ans, rfl⟩
    refine ⟨_, rfl, _, .inl ⟨_, SqL.of hw1, rfl⟩, ite2 (fun e => ?_) (fun e => ?_)⟩
    · have hne : st ≠ [] := by
        intro z
        subst z
        cases pr
        simp at e
      obtain ⟨st0, r, rfl⟩ : ∃ st0 r, st = st0 ++ [r] := ⟨st.dropLast, st.getLast hne, (List.dropLast_concat_getLast hne).symm⟩
      obtain ⟨us0, u, rfl, pr0, a, rfl, ha0, halw, har⟩ := Paired.unsnoc pr
      obtain ⟨hrk, hrb⟩ := inv r (by simp)
      have hpos := pos st0.length r (by simp)
      refine ⟨fun σ H' => ∃ (v4 v5 : Option V) (us' : List V) (st' : List Row), σ = [some (nv k), some (.ref c), some (.ref f), some (.ref lw), v4, v5] ∧ Gr T H H' ∧ H' lw = some (.lst us') ∧ Paired (RwX H lw H') us' st' ∧
          (∀ r ∈ st', r.length ≤ k ∧ Gm.Built p ch r) ∧ (∀ (i : Nat) (r : Row), st'[i]? = some r → i ≤ ch.length * r.length) ∧ Gm.stack p ch k st' = Gm.dfs p ch k k [] ∧ Gm.load ch.length k st' < Gm.load ch.length k (st0 ++ [r]), ?_, ?_⟩
      · rintro σ' H' ⟨v4, v5, us', st', e1, e2, e3, e4, e5, e6, e7, e8⟩
        exact ⟨_, e8, v4, v5, us', st', e1, e2, e3, e4, e5, e6, e7, rfl⟩
      -- row = waiting.pop()
      refine ⟨_, rfl, .inl ⟨rfl, _, SqL.of hw1⟩, lw, us0 ++ [.ref a], .ref a, rfl, rfl, hw1, by simp, ?_⟩
      rw [List.dropLast_concat]
      have gH2 : Gr T H (upd H1 lw (.lst us0)) := gH.put hlw0 (.inr ⟨_, hw1⟩)
      have har2 : upd H1 lw (.lst us0) a = some (.lst (gv r)) := by rw [upd_ne halw]; exact har
      have pr2 : Paired (RwX H lw (upd H1 lw (.lst us0))) us0 st0 := Paired.mapP pr0 fun v r h => h.mono fun a xs z e => by rw [upd_ne z]; exact e
      generalize hH2 : upd H1 lw (.lst us0) = H2 at gH2 har2 pr2
      have hw2 : H2 lw = some (.lst us0) := by rw [← hH2, upd_same]
      -- len(row) == length
      refine ⟨_, rfl, a, _, rfl, .inl (SqL.of har2), _, rfl, rfl, _, rfl, ?_⟩
      rw [gv_len]
      refine ite2 (fun e2 => ?_) (fun e2 => ?_)
      · have e2 : r.length = k := by
          have h := of_decide_eq_true e2
          injection h with h
          omega
        refine ⟨_, rfl, q H2 a gH2 ha0 ?_⟩
        rw [har2, ← ans, Gm.stack_end e2]
        rfl
      have hlt : r.length < k := by
        have : r.length ≠ k := fun z => e2 (by rw [z]; exact decide_eq_true rfl)
        omega
      -- for choice in reversed(choices)
      refine ⟨_, rfl, c, _, rfl, gH2.seq hS, ?_⟩
      refine for_rev (K := K) (a := c) (xs := gv ch) (fun i σ H' => ∃ (v5 : Option V) (us' : List V), σ = [some (nv k), some (.ref c), some (.ref f), some (.ref lw), some (.ref a), v5] ∧ Gr T H H' ∧ H' lw = some (.lst us') ∧ H' a = some (.lst (gv r)) ∧
          Paired (RwX H lw H') us' (st0 ++ (((ch.drop (ch.length - i)).filter (p r)).map fun v => r ++ [v]).reverse))
        ⟨v5, us0, rfl, gH2, hw2, har2, by simpa using pr2⟩ (fun i σ H' _ h => by
          obtain ⟨_, _, _, g, _⟩ := h
          exact g.seq hS) ?_ ?_
      · rintro i x σ H3 hi hx ⟨v5, us', rfl, gH3, hw3, har3, pr3⟩
        rw [gv_len] at hi hx
        obtain ⟨v, hv, rfl⟩ := gv_item hx
        have hvm := List.mem_of_getElem? hv
        have hlt' : ch.length - 1 - i < ch.length := by omega
        have hdr : ch.drop (ch.length - (i + 1)) = v :: ch.drop (ch.length - i) := by
          have h1 := List.drop_eq_getElem_cons (l := ch) (i := ch.length - 1 - i) hlt'
          have h2 : ch[ch.length - 1 - i] = v := by
            rw [List.getElem?_eq_getElem hlt'] at hv
            exact Option.some.inj hv
          rw [h2] at h1
          have h3 : ch.length - (i + 1) = ch.length - 1 - i := by omega
          have h4 : ch.length - 1 - i + 1 = ch.length - i := by omega
          rw [h3, h1, h4]
        refine ⟨f, fdL, psL, spL, oL, rfl, FL, bL, gH3.fz hfL, hoL, _, rfl, _, rfl, gH3.fz hfL, ?_⟩
        refine cbL H3 gH3 a r v har3 hlt hrb hvm _ fun H4 g4 => ⟨_, rfl, ite2 (fun pv => ?_) (fun pv => ?_)⟩
        · have hw4 := g4.lst hw3
          have har4 := g4.lst har3
          have gH4 := gH3.trans g4
          have pr4 : Paired (RwX H lw H4) us' _ := Paired.mapP pr3 fun v r h => h.mono fun a xs _ e => g4.lst e
          have ul : us'.length ≤ 65537 + 256 := by
            have e1 := Paired.length pr3
            have h1 := List.length_filter_le (p r) (ch.drop (ch.length - i))
            rw [e1, List.length_append, List.length_reverse, List.length_map]
            have h2 : (ch.drop (ch.length - i)).length ≤ 256 := by rw [List.length_drop]; omega
            have h3 : ch.length * r.length ≤ 256 * 256 := Nat.mul_le_mul hch (by omega)
            omega
          have har4' : ∀ t, H4 t = none → (upd H4 t (.lst [nv v])) a = some (.lst (gv r)) := fun t ht => by rw [upd_ne (ne_of_none har4 ht)]; exact har4
          refine ⟨_, rfl, .inl ⟨rfl, _, SqL.of hw4⟩, _, rfl, _, rfl, line1000' (by show 1 ≤ 1000; decide), fun t ht => ⟨a, t, _, _, rfl, rfl, har4' t ht, upd_same, line1000' (by rw [gv_len]; show r.length + 1 ≤ 1000; omega), fun n hn => ⟨lw, us', _, rfl, rfl, ?_, by rw [sizeLine_eq]; omega, ?_⟩⟩⟩
          · rw [upd_ne (ne_of_none (by rw [upd_ne (ne_of_none hw4 ht)]; exact hw4) hn), upd_ne (ne_of_none hw4 ht)]
            exact hw4
          · have nlw : n ≠ lw := fun z => by rw [z, upd_ne (ne_of_none hw4 ht), hw4] at hn; cases hn
            have nt : n ≠ t := fun z => by rw [z, upd_same] at hn; cases hn
            have hn4 : H4 n = none := by rw [← upd_ne nt (H := H4) (o := .lst [nv v])]; exact hn
            have g5 : Gr T H (upd (upd H4 t (.lst [nv v])) n (.lst (gv r ++ [nv v]))) := (gH4.new ht).new hn
            have hw5 : (upd (upd H4 t (.lst [nv v])) n (.lst (gv r ++ [nv v]))) lw = some (.lst us') := by rw [upd_ne nlw.symm, upd_ne (ne_of_none hw4 ht)]; exact hw4
            have keep : ∀ b xs, H4 b = some (.lst xs) → b ≠ lw → (upd (upd (upd H4 t (.lst [nv v])) n (.lst (gv r ++ [nv v]))) lw (.lst (us' ++ [.ref n]))) b = some (.lst xs) := fun b xs e z => by
              rw [upd_ne z, upd_ne (ne_of_none e hn4), upd_ne (ne_of_none e ht)]; exact e
            have hn0 : H n = none := gH4.free hn4
            refine ⟨_, us' ++ [.ref n], rfl, g5.put hlw0 (.inr ⟨_, hw5⟩), upd_same, keep _ _ har4 halw, ?_⟩
            rw [hdr, List.filter_cons_of_pos pv, List.map_cons, List.reverse_cons, ← List.append_assoc]
            refine Paired.snoc' (Paired.mapP pr4 fun v r h => h.mono fun a xs z e => keep a xs e z) ⟨n, rfl, hn0, nlw, ?_⟩
            rw [upd_ne nlw, upd_same, gv_snoc]
        · refine ⟨_, us', rfl, gH3.trans g4, g4.lst hw3, g4.lst har3, ?_⟩
          rw [hdr, List.filter_cons_of_neg pv]
          exact Paired.mapP pr3 fun v r h => h.mono fun a xs _ e => g4.lst e
      · rintro σ H3 ⟨v5, us', rfl, gH3, hw3, har3, pr3⟩
        rw [gv_len, Nat.sub_self, List.drop_zero] at pr3
        refine ⟨_, _, us', _, rfl, gH3, hw3, pr3, fun r' hr' => ?_, fun i r' hi => ?_, ?_, ?_⟩
        · rcases List.mem_append.mp hr' with z | z
          · exact inv r' (List.mem_append_left _ z)
          · rw [List.mem_reverse] at z
            obtain ⟨v, hv, rfl⟩ := List.mem_map.mp z
            obtain ⟨hv1, hv2⟩ := List.mem_filter.mp hv
            exact ⟨by rw [List.length_append]; show r.length + 1 ≤ k; omega, Gm.built_snoc hrb hv1 hv2⟩
        · by_cases z : i < st0.length
          · rw [List.getElem?_append_left z] at hi
            exact pos i r' (by rw [List.getElem?_append_left z]; exact hi)
          · rw [List.getElem?_append_right (by omega)] at hi
            have hm := List.mem_of_getElem? hi
            rw [List.mem_reverse] at hm
            obtain ⟨v, _, rfl⟩ := List.mem_map.mp hm
            have hl := (List.getElem?_eq_some_iff.mp hi).1
            rw [List.length_reverse, List.length_map] at hl
            have h1 := List.length_filter_le (p r) ch
            have h2 : (r ++ [v]).length = r.length + 1 := by rw [List.length_append]; rfl
            rw [h2, Nat.mul_add]
            omega
        · rw [← ans]
          exact Gm.stack_step hlt
        · exact Gm.load_step hlt
    · have he : us = [] := by
        cases us with
        | nil => rfl
        | cons _ _ => simp at e
      subst he
      have hst : st = [] := by
        cases pr
        rfl
      subst hst
      refine ⟨Nat.zero_le _, fun l hl => q _ l (gH.new hl) ?_ ?_⟩
      · exact gH.free hl
      · rw [upd_same, ← ans]
        rfl
end
end Gp

namespace Gp
open PySem PyProof.Rows L2
open PySem.Spec hiding Row
open Gg (Graph Row joined isGraph nodes)
section
variable {P : Program} {w : World} {K : PySem.W.Frag} {mg : Str → Option Value} {base : Heap}
def spKeeps (K : PySem.W.Frag) : Sp := fun vs H Q _ => ∃ (a b : Addr) (g : Graph) (sh : List Row) (vsh : V) (r : Row) (v : Nat), vs = [.ref a, vsh, .ref b, nv v] ∧ SqL K H a (gv g) ∧ ShV K H vsh sh ∧ SqL K H b (gv r) ∧ r.length < sh.length ∧ r.length ≤ 1000 ∧ (∀ u ∈ r, u < g.length) ∧
  ∀ H', Same H H' → Q (.bl (Gm.shP g sh r v)) H'
theorem sc_keeps_shape : FnScope ["graph", "shape", "row", "node", "near", "place"] ["graph", "shape", "row", "node"] (defScope s_keeps_shape) := ⟨rfl, rfl, rfl, by decide +kernel, rfl, by decide +kernel, by decide +kernel⟩
theorem ok_keeps_shape {f fJ : Addr} {fd fdJ : FuncData} (D : Df K mg "keeps_shape" s_keeps_shape ["graph", "shape", "row", "node"] f fd) (DJ : Df K mg "joined" s_joined ["graph", "node", "other"] fJ fdJ) (B : Bn mg) : FnOk P w K mg base CX0 2 f fd ["graph", "shape", "row", "node"] (spKeeps K) := by
  have GJ : FnOk P w K mg base CX0 1 fJ fdJ ["graph", "node", "other"] (spJoined K) := ok_joined DJ
  refine D.F.ok sc_keeps_shape (fun vs H Q E h => ?_) (fun cdv A outer s H vs Q E hr h => ?_)
  · obtain ⟨a, b, g, sh, vsh, r, v, rfl, _⟩ := h
    rfl
  · obtain ⟨a, b, g, sh, vsh, r, v, rfl, hS, hsh, hb, hlt, hz, hin, q⟩ := h
    refine ⟨_, pss_cons (ps_setLc (i := 4) rfl sc_keeps_shape.nd rfl rfl (sw_true rfl rfl rfl rfl) (pi_range1 (by rfl) B.range (pa_cons (pe_callB call_len_seq (by rfl) B.len PySem.boot_len (pa_cons (pv 2) pa_nil)) pa_nil)) (own := [("place", 5)]) (blkOk_by (by rfl))
        (fun _ _ _ _ _ => pg_name (i := 5) sc_keeps_shape.nd rfl (Or.inl rfl))
        (fun _ _ _ _ _ => pts_one (pt_val (pe_call GJ hr (by rfl) DJ.m DJ.F.kp DJ.b .nil pass0 (pa_cons (pv 0) (pa_cons (pe_ix (r := rIxL K) ix_list (pv 2) (pv 5) (fun _ _ => rfl)) (pa_cons (pv 3) pa_nil))))))
        (fun _ _ _ _ _ => pv 5))
      (pss_one (ps_ret (pe_and (pe_cmpR op_notIn_seq (pv 3) (pv 2) (by rfl)) (pe_one (pe_cmpR (op_eqT hr.units0) (pe_callTy call_tuple_of (by rfl) B.tuple boot_tuple (pa_cons (pv 4) pa_nil))
        (pe_ix ix_seq (pv 1) (pe_callB call_len_seq (by rfl) B.len PySem.boot_len (pa_cons (pv 2) pa_nil)) (fun _ _ => rfl)) (nomark _)))))), ?_⟩
    refine ⟨_, rfl, b, _, rfl, .inl hb, ?_⟩
    rw [gv_len]
    refine ⟨_, rfl, by omega, by omega, fun Dn hDn => ?_⟩
    rw [Int.toNat_natCast]
    refine lc_pickR (n := r.length) (fun i => joined g (Gg.node r i) v) nv hDn (by omega) ?_ ?_
    · intro i hi H2 s2 k1 k0 y1 y0
      have hri : Gg.node r i < g.length := by
        refine hin _ ?_
        unfold Gg.node
        rw [List.getD_eq_getElem?_getD, List.getElem?_eq_getElem hi]
        exact List.getElem_mem hi
      refine ⟨rfl, _, rfl, _, rfl, _, rfl, b, _, _, _, rfl, rfl, s2.seq hb, gv_at hi, _, rfl, a, g, Gg.node r i, v, rfl, s2.seq hS, hri, _, rfl, ?_⟩
      cases e : joined g (Gg.node r i) v with
      | true => exact ⟨_, rfl, y1 e H2 (Same.refl _)⟩
      | false => exact y0 e H2 (Same.refl _)
    intro H1 s1 h1
    refine ⟨_, rfl, _, rfl, b, _, rfl, .inl (s1.seq hb), rfl, flat_gv r, _, rfl, ?_⟩
    show if (if true = true then !inV (nv v) (gv r) else inV (nv v) (gv r)) = true then _ else _
    rw [if_pos rfl, in_gv]
    refine ite2 (fun hc => ?_) (fun hc => ?_)
    · have hc : r.contains v = false := by simpa using hc
      refine ⟨_, rfl, Dn, _, rfl, .inl ⟨SqL.of h1, fun t ht => ?_⟩⟩
      have s2 : Same H1 (upd H1 t (.tup (((List.range r.length).filter fun i => joined g (Gg.node r i) v).map nv))) := same_new ht
      obtain ⟨p, us, rfl, hus, pr⟩ := hsh.same (s1.trans s2)
      have hul : us.length = sh.length := Paired.length pr
      have hlt' : r.length < us.length := by omega
      obtain ⟨s', hs', qd, eq, hq⟩ := Paired.get' pr (i := r.length) (List.getElem?_eq_getElem hlt')
      refine ⟨_, rfl, _, rfl, b, _, rfl, .inl ((s1.trans s2).seq hb), ?_⟩
      have fin : ∀ (Z : Hp → Prop), True := fun _ => trivial
      have es' : sh.getD r.length [] = s' := by rw [List.getD_eq_getElem?_getD, hs']; rfl
      have last : Q (.bl (decide ((List.range r.length).filter (fun i => joined g (Gg.node r i) v) = s'))) (upd H1 t (.tup (((List.range r.length).filter fun i => joined g (Gg.node r i) v).map nv))) := by
        have e : Gm.shP g sh r v = decide ((List.range r.length).filter (fun i => joined g (Gg.node r i) v) = s') := by
          unfold Gm.shP
          rw [hc, es']; rfl
        rw [← e]
        exact q _ (s1.trans s2)
      have item : atI us ((r.length : Nat) : Int) = some (.ref qd) := by
        rw [← eq]
        exact atI_nat (List.getElem?_eq_getElem hlt')
      have tt : SqT K (upd H1 t (.tup (((List.range r.length).filter fun i => joined g (Gg.node r i) v).map nv))) t (gv ((List.range r.length).filter fun i => joined g (Gg.node r i) v)) := SqT.of upd_same
      rw [gv_len]
      rcases hus with z | z
      · exact .inl ⟨p, us, _, _, rfl, rfl, z, item, t, qd, _, _, rfl, rfl, tt, hq, last⟩
      · exact .inr (.inl ⟨p, us, _, _, rfl, rfl, z, item, t, qd, _, _, rfl, rfl, tt, hq, last⟩)
    · have hc : r.contains v = true := by simpa using hc
      have e : Gm.shP g sh r v = false := by unfold Gm.shP; rw [hc]; rfl
      rw [← e]
      exact q H1 s1
end
end Gp

namespace Gp
open PySem PyProof.Rows L2
open PySem.Spec hiding Row
open Gg (Graph Row joined isGraph nodes)
section
variable {P : Program} {w : World} {K : PySem.W.Frag} {mg : Str → Option Value} {base : Heap} {T : List Tab}
def spOfShape (T : List Tab) (K : PySem.W.Frag) : Sp := fun vs H Q _ => ∃ (a : Addr) (g : Graph) (sh : List Row) (vsh : V), vs = [.ref a, vsh] ∧ SqL K H a (gv g) ∧ Gm.Ok g ∧ ShV K H vsh sh ∧ sh.length ≤ 8 ∧ TB T H ∧
  ∀ (H' : Hp) (l : Addr), Gr T H H' → H l = none → H' l = some (.lst (gv ((Gm.dfs (Gm.shP g sh) (nodes g) sh.length sh.length []).getD []))) → Q (.ref l) H'
theorem sc_first_of_shape : FnScope ["graph", "shape"] ["graph", "shape"] (defScope s_first_of_shape) := ⟨rfl, rfl, rfl, by decide +kernel, rfl, by decide +kernel, by decide +kernel⟩
theorem lam_first_of_shape : LamScope ["row", "node"] ["graph", "shape"] (lamScope s_first_of_shape) := ⟨rfl, rfl, rfl, by decide +kernel, by decide +kernel, by decide +kernel, by decide +kernel, by decide +kernel⟩
theorem bind_first_of_shape : LamBinds (lamArgs s_first_of_shape) ["row", "node"] := fun _ _ _ _ _ _ _ _ us hl => match us, hl with | [_, _], _ => rfl
theorem ok_first_of_shape {f fR fY fJ : Addr} {fd fdR fdY fdJ : FuncData} (ct : Ct T mg base) (D : Dl T K mg base "first_of_shape" s_first_of_shape ["graph", "shape"] f fd) (DR : Df K mg "first_row" s_first_row ["length", "choices", "fits"] fR fdR) (DY : Df K mg "keeps_shape" s_keeps_shape ["graph", "shape", "row", "node"] fY fdY) (DJ : Df K mg "joined" s_joined ["graph", "node", "other"] fJ fdJ) (B : Bn mg) :
    FnOk P w K mg base CX0 5 f fd ["graph", "shape"] (spOfShape T K) := by
  have GY : FnOk P w K mg base CX0 2 fY fdY ["graph", "shape", "row", "node"] (spKeeps K) := ok_keeps_shape DY DJ B
  have GR : FnOk P w K mg base CX0 4 fR fdR ["length", "choices", "fits"] (spFirstRow P w K mg base T 3) := ok_first_row DR B
  obtain ⟨c, Pt, hcode, hcd, hmem⟩ := D.cp
  refine D.d.F.okC hcode sc_first_of_shape (fun vs H Q E h => ?_) (fun A outer s H vs Q E hr h => ?_)
  · obtain ⟨a, g, sh, vsh, rfl, _⟩ := h
    rfl
  · obtain ⟨a, g, sh, vsh, rfl, hS, o, hsh, hl8, tb, q⟩ := h
    have h8 := o.le
    refine ⟨_, pss_one (ps_ret (pe_callC [("graph", 0), ("shape", 1)] GR hr (by rfl) DR.m DR.F.kp DR.b (fun n hn => by
        rcases List.mem_cons.mp hn with rfl | hn
        · exact ⟨rfl, rfl, rfl⟩
        · rw [List.mem_singleton.mp hn]; exact ⟨rfl, rfl, rfl⟩)
      (pa_cons (pe_callB call_len_seq (by rfl) B.len PySem.boot_len (pa_cons (pv 1) pa_nil)) (pa_cons (pe_callTy (call_list_rng rfl) (by rfl) B.list my_boot_list (pa_cons (pe_callTy call_rng (by rfl) B.range boot_range (pa_cons (pe_callB call_len_seq (by rfl) B.len PySem.boot_len (pa_cons (pv 0) pa_nil)) pa_nil)) pa_nil))
        (pa_cons (pe_lam hmem ct.one rfl hcd ct.bm rfl rfl rfl (fun y hy e => by
          rcases List.mem_cons.mp (lam_first_of_shape.only y hy e) with h | h
          · exact ⟨_, by rw [h]; rfl⟩
          · exact ⟨_, by rw [List.mem_singleton.mp h]; rfl⟩)) pa_nil))))), ?_⟩
    obtain ⟨p, us, rfl, hus, pr⟩ := id hsh
    have hul : us.length = sh.length := Paired.length pr
    refine ⟨_, rfl, p, us, rfl, hus, ?_⟩
    rw [hul]
    refine ⟨_, rfl, a, _, rfl, .inl hS, ?_⟩
    rw [gv_len]
    refine ⟨_, rfl, fun p1 hp1 => ⟨p1, g.length, rfl, upd_same, by omega, fun l1 hl1 => ?_⟩⟩
    have s1 : Same H (upd (upd H p1 (.rng 0 ((g.length : Nat) : Int))) l1 (.lst ((List.range g.length).map fun (i : Nat) => V.int (i : Int)))) := (same_new hp1).trans (same_new hl1)
    rw [gv_range] at s1 ⊢
    generalize hH1 : upd (upd H p1 (.rng 0 ((g.length : Nat) : Int))) l1 (.lst (gv (List.range g.length))) = H1 at s1
    have h1 : H1 l1 = some (.lst (gv (List.range g.length))) := by rw [← hH1, upd_same]
    refine ⟨tb.same s1, fun H2 fL cL ctv g2 hf hf2 hcd2 => ⟨fun n hn => by
        rcases List.mem_cons.mp hn with rfl | hn
        · exact ⟨_, rfl⟩
        · rw [List.mem_singleton.mp hn]; exact ⟨_, rfl⟩, fun cs hcs hcn => ?_⟩⟩
    have hf2 : H2 fL = some (fz (lamObj s_first_of_shape "first_of_shape" mg [("shape", s.heap.objs.size + 2), ("graph", s.heap.objs.size + 1)] cL ctv)) := hf2
    obtain ⟨L, ecs, hcell⟩ := lam_two hcs (n := s.heap.objs.size + 1) (m := s.heap.objs.size + 2) rfl rfl (Nat.ne_of_lt (Nat.lt_succ_self (s.heap.objs.size + 1))) (by decide) (v := .ref a) (z := .ref p) rfl rfl hf2 hcd2 hcn
    have C : CloOk [(("shape" : Str), s.heap.objs.size + 2), (("graph" : Str), s.heap.objs.size + 1)] [("graph" : Str), "shape"] := clo_two (by decide) (Nat.ne_of_gt (Nat.lt_succ_self (s.heap.objs.size + 1))) _ (by simp) (by simp)
    have gS : SqL K H2 a (gv g) := g2.seq (s1.seq hS)
    have gSh : ShV K H2 (.ref p) sh := (hsh.same s1).gr g2
    refine ⟨sh.length, l1, fL, List.range g.length, Gm.shP g sh, rfl, (same_shw hcn).seq (g2.seq (SqL.of h1)), by rw [List.length_range]; omega, by omega, ?_, fun H3 l g3 hl hl3 => ?_⟩
    · refine cb_lam lam_first_of_shape C rfl bind_first_of_shape L
        (fun A outer s H hr => pe_call GY hr (by rfl) DY.m DY.F.kp DY.b .nil pass0 (pa_cons (pv 2) (pa_cons (pv 3) (pa_cons (pv 0) (pa_cons (pv 1) pa_nil))))) fun H4 g4 b r v hb hrl hbt _ Q' hQ' => ?_
      have c0 := L.cells C
      refine ⟨_, rfl, _, rfl, _, rfl, _, rfl, a, b, g, sh, _, r, v, rfl, g4.seq (hid_seq c0 ((same_shw hcn).seq gS)), (ShV.hid c0 (gSh.same (same_shw hcn))).gr g4, SqL.of hb, hrl, by omega, fun u hu => List.mem_range.mp (hbt.mem hu), fun H5 s5 => hQ' H5 (.of s5)⟩
    · obtain ⟨n1, n2⟩ := new_shown hl hl3
      exact q _ l ((Gr.of s1).trans (g2.trans (Gr.shown hcn hcell g3))) ((Gr.of s1 : Gr T H H1).free (g2.free n1)) n2
end
end Gp

namespace L2
open PySem PySem.Spec PyProof.Rows
def tTruK (K : PySem.W.Frag) (ta : TE) : TT := fun σ H Q => ta σ H fun x H' => ∃ k, TruV K x H' k ∧ Q k H'
theorem pt_truthK {X : Cx} {a : Expr} {ta : TE} (ha : PE X a ta) (he : ∀ whole, isTrue a X.env whole = (do let v ← whole; standAt a.pos; holding [v] (truthy v))) : PT X a (tTruK X.K ta) := pt_truth ha he
/-- the same over a tuple -/
theorem lc_pickGT {α : Type} {T : List Tab} {K : PySem.W.Frag} {a : Addr} {r : List α} {us0 : List V} {g : TG} {tt : TT} {te : TE} {vs : List Nat} {σ : L2.St} {H1 : Hp} {D : Addr} {Qd : Hp → Prop} (I0 : V → α → Prop) (hI : Paired I0 us0 r) (R : Hp → V → α → Prop) (hR : ∀ H H' v x, Gr T H H' → R H v x → R H' v x) (hRD : ∀ H v x xs, H D = some (.lst xs) → R H v x → ∀ ys, R (upd H D (.lst ys)) v x)
    (hS : SqL K H1 a us0 ∨ SqT K H1 a us0) (hD : H1 D = none) (hz : r.length ≤ 1000)
    (hs : ∀ x u, I0 u x → ∀ H, Gr T H1 H → (∃ acc, H D = some (.lst acc)) → ∀ (k1 : VK) (k0 : Hp → Prop), (∀ v H4, Gr T H H4 → R H4 v x → k1 v H4) → g u (wipe σ vs) H fun σ2 H2 => wipe σ2 vs = wipe σ vs ∧ tt σ2 H2 fun b H3 => if b = true then te σ2 H3 k1 else k0 H3)
    (hd : ∀ H us, Gr T H1 H → H D = some (.lst us) → Paired (R H) us r → Qd H) :
    (SqL K H1 a us0 → ∃ W : Nat → Nat → Hp → Prop, (∃ m, W 0 m (upd H1 D (.lst []))) ∧ ∀ i m H, W i m H →
      ((Itl K a).stop i H ∧ Qd H) ∨ ((Itl K a).go i H ∧ ∃ Nx : Hp → Prop, (∀ H', Nx H' → ∃ m', m' < m ∧ W (i + 1) m' H') ∧ ∀ x H', (Itl K a).yld i H x H' → g x (wipe σ vs) H' fun σ2 H2 => wipe σ2 vs = wipe σ vs ∧ tt σ2 H2 fun b H3 =>
        if b = true then te σ2 H3 fun y H4 => ∃ acc, H4 D = some (.lst acc) ∧ acc.length < sizeLine ∧ Nx (upd H4 D (.lst (acc ++ [y]))) else Nx H3)) ∧
    (SqT K H1 a us0 → ∃ W : Nat → Nat → Hp → Prop, (∃ m, W 0 m (upd H1 D (.lst []))) ∧ ∀ i m H, W i m H →
      ((Itt K a).stop i H ∧ Qd H) ∨ ((Itt K a).go i H ∧ ∃ Nx : Hp → Prop, (∀ H', Nx H' → ∃ m', m' < m ∧ W (i + 1) m' H') ∧ ∀ x H', (Itt K a).yld i H x H' → g x (wipe σ vs) H' fun σ2 H2 => wipe σ2 vs = wipe σ vs ∧ tt σ2 H2 fun b H3 =>
        if b = true then te σ2 H3 fun y H4 => ∃ acc, H4 D = some (.lst acc) ∧ acc.length < sizeLine ∧ Nx (upd H4 D (.lst (acc ++ [y]))) else Nx H3)) := by
  have hul : us0.length = r.length := Paired.length hI
  have snoc : ∀ {H : Hp} {us : List V} {l : List α} {v : V} {x : α}, Paired (R H) us l → R H v x → Paired (R H) (us ++ [v]) (l ++ [x]) := fun {H us l v x} h q => by
    induction h with
    | nil => exact .cons q .nil
    | cons a _ ih => exact .cons a ih
  have get : ∀ {i : Nat} {u : V}, us0[i]? = some u → ∃ x, r[i]? = some x ∧ I0 u x := fun {i u} e => by
    have key : ∀ {us : List V} {l : List α}, Paired I0 us l → ∀ (i : Nat), us[i]? = some u → ∃ x, l[i]? = some x ∧ I0 u x := by
      intro us l h
      induction h with
      | nil => intro i e; simp at e
      | cons a _ ih =>
        intro i e
        cases i with
        | zero =>
          simp at e
          subst e
          exact ⟨_, rfl, a⟩
        | succ i =>
          obtain ⟨x, h1, h2⟩ := ih i (by simpa using e)
          exact ⟨x, by simpa using h1, h2⟩
    exact key hI i e
  let Pv : Nat → Hp → Prop := fun i H => Gr T H1 H ∧ ∃ us, H D = some (.lst us) ∧ Paired (R H) us (r.take i)
  have h0 : Pv 0 (upd H1 D (.lst [])) := ⟨(Gr.refl H1).put hD (.inl hD), [], upd_same, .nil⟩
  have step : ∀ i u H, us0[i]? = some u → Pv i H → g u (wipe σ vs) H fun σ2 H2 => wipe σ2 vs = wipe σ vs ∧ tt σ2 H2 fun b H3 =>
      if b = true then te σ2 H3 fun y H4 => ∃ acc, H4 D = some (.lst acc) ∧ acc.length < sizeLine ∧ Pv (i + 1) (upd H4 D (.lst (acc ++ [y]))) else Pv (i + 1) H3 := by
    rintro i u H hi ⟨s1, us, h1, p1⟩
    obtain ⟨x, hx, ix⟩ := get hi
    have hlt : i < r.length := (List.getElem?_eq_some_iff.mp hx).1
    have hx' : r[i] = x := (List.getElem?_eq_some_iff.mp hx).2
    have tk : r.take (i + 1) = r.take i ++ [x] := by rw [List.take_succ_eq_append_getElem hlt, hx']
    refine hs x u ix H s1 ⟨us, h1⟩ _ _ fun v H4 s4 rv => ?_
    have h4 := s4.lst h1
    refine ⟨_, h4, ?_, ?_, us ++ [v], upd_same, ?_⟩
    · have e1 := Paired.length p1
      rw [e1, sizeLine_eq, List.length_take]
      omega
    · exact (s1.trans s4).put hD (.inr ⟨_, h4⟩)
    · rw [tk]
      exact snoc (Paired.mapP p1 fun v x q => hRD _ _ _ _ h4 (hR _ _ _ _ s4 q) _) (hRD _ _ _ _ h4 rv _)
  have done : ∀ H, Pv us0.length H → Qd H := by
    rintro H ⟨s1, us, h1, p1⟩
    rw [hul, List.take_length] at p1
    exact hd H us s1 h1 p1
  exact ⟨fun z => lc_list (xs := us0) Pv h0 (fun i H _ h => h.1.seq z) step done, fun z => lc_tup (xs := us0) Pv h0 (fun i H _ h => h.1.seqT z) step done⟩
end L2

namespace Gp
open PySem PyProof.Rows L2
open PySem.Spec hiding Row
open Gg (Graph Row joined isGraph nodes)
section
variable {P : Program} {w : World} {K : PySem.W.Frag} {mg : Str → Option Value} {base : Heap} {T : List Tab}
/-- the first row of a shape, or none -/
def ofShape (g : Graph) (sh : List Row) : Row := (Gm.dfs (Gm.shP g sh) (nodes g) sh.length sh.length []).getD []
/-- the first of some rows that aren't empty -/
def pick (l : List Row) : Row := ((l.filter fun r => !r.isEmpty)[bst (fun i j => rowLt ((l.filter fun r => !r.isEmpty).getD i []) ((l.filter fun r => !r.isEmpty).getD j [])) (l.filter fun r => !r.isEmpty).length]?).getD []
/-- shapes stand at v, a list or a tuple of them -/
def ShsV (K : PySem.W.Frag) (H : Hp) (v : V) (shs : List (List Row)) : Prop := ∃ p us, v = .ref p ∧ SqL K H p us ∧ Paired (fun u sh => ShV K H u sh) us shs
def spShaped (T : List Tab) (K : PySem.W.Frag) : Sp := fun vs H Q _ => ∃ (a : Addr) (g : Graph) (shs : List (List Row)) (v : V), vs = [.ref a, v] ∧ SqL K H a (gv g) ∧ Gm.Ok g ∧ ShsV K H v shs ∧ shs.length ≤ 8 ∧ (∀ sh ∈ shs, sh.length ≤ 8) ∧ TB T H ∧
  ∀ (H' : Hp) (l : Addr), Gr T H H' → H l = none → H' l = some (.lst (gv (pick (shs.map (ofShape g))))) → Q (.ref l) H'
theorem sc_first_shaped : FnScope ["graph", "shapes", "rows", "shape", "row"] ["graph", "shapes"] (defScope s_first_shaped) := ⟨rfl, rfl, rfl, by decide +kernel, rfl, by decide +kernel, by decide +kernel⟩
theorem lam_first_shaped : LamScope ["row"] [] (lamScope s_first_shaped) := ⟨rfl, rfl, rfl, by decide +kernel, by decide +kernel, by decide +kernel, by decide +kernel, by decide +kernel⟩
theorem bind_first_shaped : LamBinds (lamArgs s_first_shaped) ["row"] := fun _ _ _ _ _ _ _ _ us hl => match us, hl with | [_], _ => rfl
/-- a row that's new -/
def RwN (H0 H : Hp) (v : V) (r : Row) : Prop := ∃ a, v = .ref a ∧ H0 a = none ∧ H a = some (.lst (gv r))
theorem ok_first_shaped {f fS fR fY fJ : Addr} {fd fdS fdR fdY fdJ : FuncData} (ct : Ct T mg base) (D : Dl T K mg base "first_shaped" s_first_shaped ["graph", "shapes"] f fd) (DS : Dl T K mg base "first_of_shape" s_first_of_shape ["graph", "shape"] fS fdS) (DR : Df K mg "first_row" s_first_row ["length", "choices", "fits"] fR fdR) (DY : Df K mg "keeps_shape" s_keeps_shape ["graph", "shape", "row", "node"] fY fdY) (DJ : Df K mg "joined" s_joined ["graph", "node", "other"] fJ fdJ) (B : Bn mg) :
    FnOk P w K mg base CX0 6 f fd ["graph", "shapes"] (spShaped T K) := by
  have GS : FnOk P w K mg base CX0 5 fS fdS ["graph", "shape"] (spOfShape T K) := ok_first_of_shape ct DS DR DY DJ B
  obtain ⟨c, Pt, hcode, hcd, hmem⟩ := D.cp
  refine D.d.F.okC hcode sc_first_shaped (fun vs H Q E h => ?_) (fun A outer s H vs Q E hr h => ?_)
  · obtain ⟨a, g, shs, v, rfl, _⟩ := h
    rfl
  · obtain ⟨a, g, shs, v, rfl, hS, o, ⟨p, us0, rfl, hus, pr⟩, hl8, hsh8, tb, q⟩ := h
    have hul : us0.length = shs.length := Paired.length pr
    refine ⟨_, pss_cons (ps_setLc (i := 2) rfl sc_first_shaped.nd rfl rfl (sw_true rfl rfl rfl rfl) (pi_list (pv 1)) (own := [("shape", 3)]) (blkOk_by (by rfl))
        (fun _ _ _ _ _ => pg_name (i := 3) sc_first_shaped.nd rfl (Or.inl rfl)) (fun _ _ _ _ _ => pts_nil)
        (fun _ _ _ _ _ => pe_call GS hr (by rfl) DS.d.m DS.d.F.kp DS.d.b .nil pass0 (pa_cons (pv 0) (pa_cons (pv 3) pa_nil))))
      (pss_one (ps_ret (pe_minK (k := 1) rfl (hr.mono (by decide)) (by rfl) B.min (pa_cons (pe_lc rfl sc_first_shaped.nd (pi_list (pv 2)) (own := [("row", 4)]) (blkOk_by (by rfl))
          (fun _ _ _ _ _ => pg_name (i := 4) sc_first_shaped.nd rfl (Or.inl rfl)) (fun _ _ _ _ _ => pts_one (t := tTruK K (tVar 4)) (pt_truthK (pv 4) (fun _ => rfl))) (fun _ _ _ _ _ => pv 4)) pa_nil)
        (pk_cons (pe_lam hmem ct.one rfl hcd ct.bm rfl rfl rfl (fun y hy e => absurd (lam_first_shaped.only y hy e) (by simp))) (pk_cons (pe_lst pa_nil) pk_nil))))), ?_⟩
    -- rows = [..]
    have pr8 : Paired (fun u sh => ShV K H u sh ∧ sh.length ≤ 8) us0 shs := by
      have : ∀ {us : List V} {l : List (List Row)}, Paired (fun u sh => ShV K H u sh) us l → (∀ sh ∈ l, sh.length ≤ 8) → Paired (fun u sh => ShV K H u sh ∧ sh.length ≤ 8) us l := by
        intro us l h
        induction h with
        | nil => intro _; exact .nil
        | cons a _ ih => intro z; exact .cons ⟨a, z _ List.mem_cons_self⟩ (ih fun sh m => z sh (List.mem_cons_of_mem _ m))
      exact this pr hsh8
    refine ⟨_, rfl, p, rfl, ⟨_, hus⟩, fun Dn hDn => (lc_pickGT (T := T) (r := shs) (us0 := us0) (fun u sh => ShV K H u sh ∧ sh.length ≤ 8) pr8 (fun H1 v sh => ∃ a, v = V.ref a ∧ H a = none ∧ a ≠ Dn ∧ H1 a = some (.lst (gv (ofShape g sh))))
      (fun H1 H2 v sh gg ⟨a, h1, h2, h3, h4⟩ => ⟨a, h1, h2, h3, gg.lst h4⟩) (fun H1 v sh xs _ ⟨a, h1, h2, h3, h4⟩ ys => ⟨a, h1, h2, h3, by rw [upd_ne h3]; exact h4⟩) (.inl hus) hDn (by omega) ?_ ?_).1 hus⟩
    · intro sh u hu H1 g1 hacc k1 k0 y1
      refine ⟨rfl, iteT (B := k0 H1) ⟨_, rfl, _, rfl, a, g, sh, u, rfl, g1.seq hS, o, hu.1.gr g1, hu.2, g1.tb tb, fun H2 l g2 hl h2 => ?_⟩⟩
      obtain ⟨acc, hacc⟩ := hacc
      exact y1 _ H2 g2 ⟨l, rfl, g1.free hl, (ne_of_none hacc hl).symm, h2⟩
    intro H1 us g1 h1 pr1
    -- [row for row in rows if row]
    have hlen : us.length = shs.length := Paired.length pr1
    refine ⟨_, rfl, Dn, rfl, ⟨_, SqL.of h1⟩, fun Dm hDm => ?_⟩
    -- the rows by their addresses
    have pairs : ∀ {us : List V} {l : List (List Row)}, Paired (fun v sh => ∃ a, v = V.ref a ∧ H a = none ∧ a ≠ Dn ∧ H1 a = some (.lst (gv (ofShape g sh)))) us l →
        ∃ ps : List (Addr × Row), us = ps.map (fun p => V.ref p.1) ∧ l.map (ofShape g) = ps.map (·.2) ∧ ∀ p ∈ ps, H p.1 = none ∧ H1 p.1 = some (.lst (gv p.2)) := by
      intro us l h
      induction h with
      | nil => exact ⟨[], rfl, rfl, fun p m => by cases m⟩
      | cons a _ ih =>
        obtain ⟨b, e1, e2, _, e4⟩ := a
        obtain ⟨ps, i1, i2, i3⟩ := ih
        refine ⟨(b, _) :: ps, by rw [e1, i1]; rfl, by rw [List.map_cons, i2]; rfl, fun p m => ?_⟩
        rcases List.mem_cons.mp m with rfl | m
        · exact ⟨e2, e4⟩
        · exact i3 p m
    obtain ⟨ps, eus, erows, hps⟩ := pairs pr1
    have hpl : ps.length ≤ 8 := by
      have : us.length = ps.length := by rw [eus, List.length_map]
      omega
    have tru : ∀ (r : Row), (!(gv r).isEmpty) = !r.isEmpty := fun r => by cases r <;> rfl
    rw [eus] at h1
    refine lc_pick (r := ps) (φ := fun p => V.ref p.1) (fun p => !p.2.isEmpty) (fun p => V.ref p.1) (SqL.of h1) hDm (by omega) ?_ ?_
    · intro pp hpp H2 s2 k1 k0 y1 y0
      refine ⟨rfl, _, rfl, _, .inl ⟨_, SqL.of (s2 _ _ (hps pp hpp).2), rfl⟩, ?_⟩
      rw [tru]
      refine ite2 (fun e => ?_) (fun e => ?_)
      · exact ⟨_, rfl, y1 e H2 (Same.refl _)⟩
      · exact y0 (by simpa using e) H2 (Same.refl _)
    intro H2 s2 h2
    have eL : (shs.map (ofShape g)).filter (fun r => !r.isEmpty) = (ps.filter fun p => !p.2.isEmpty).map (·.2) := by
      rw [erows, List.filter_map]; rfl
    generalize hLL : (ps.filter fun p => !p.2.isEmpty) = L at h2 eL
    have hL : ∀ p ∈ L, H p.1 = none ∧ H1 p.1 = some (.lst (gv p.2)) := fun p m => by
      rw [← hLL] at m
      exact hps p (List.mem_filter.mp m).1
    have g2 : Gr T H H2 := g1.trans (.of s2)
    refine ⟨g2.tb tb, fun H3 fL cL ctv g3 hf hf2 hcd2 => ⟨Nat.zero_le _, fun d hd => ?_⟩⟩
    have hf2 : H3 fL = some (fz (lamObj s_first_shaped "first_shaped" mg [] cL ctv)) := hf2
    have s4 : Same H3 (upd H3 d (.lst [])) := same_new hd
    have g4 : Gr T H (upd H3 d (.lst [])) := g2.trans (g3.trans (.of s4))
    have hd0 : H d = none := (g2.trans g3).free hd
    generalize hH4 : upd H3 d (.lst []) = H4 at s4 g4
    have hd4 : H4 d = some (.lst []) := by rw [← hH4, upd_same]
    have hL4 : ∀ p ∈ L, H4 p.1 = some (.lst (gv p.2)) := fun p m => s4 _ _ (g3.lst (s2 _ _ (hL p m).2))
    have item : ∀ (i : Nat) (x : V), (L.map fun p => V.ref p.1)[i]? = some x → ∃ p, L[i]? = some p ∧ x = .ref p.1 ∧ p ∈ L ∧ (L.map (·.2)).getD i [] = p.2 := fun i x hx => by
      rw [List.getElem?_map] at hx
      cases e : L[i]? with
      | none => rw [e] at hx; cases hx
      | some p =>
        rw [e] at hx
        exact ⟨p, rfl, (Option.some.inj hx).symm, List.mem_of_getElem? e, by rw [List.getD_eq_getElem?_getD, List.getElem?_map, e]; rfl⟩
    have hcd4 : CodeAt H4 (.ref cL) _ := hcd2.same s4
    refine ⟨T, Dm, fL, .ref d, L.map fun p => V.ref p.1, KeyRow fun i => (L.map (·.2)).getD i [], _, rfl, rfl, SqL.of (s4 _ _ (g3.lst h2)), ?_, keyRow_stab _, keyRow_lt _ (Nat.lt_of_le_of_lt (Nat.add_le_add_left (by decide : 8 ≤ 64) _) hr.units), fun H5 x g5 hx => ?_⟩
    · refine key_lam (fv := []) (ws := []) lam_first_shaped clo_nil rfl bind_first_shaped ⟨s4 _ _ hf2, hcd4, rfl, fun i x h => by simp at h⟩ (keyRow_stab _)
        (fun A outer s H hr => pe_tup (pa_cons (pe_callB (r := rLen K) cr_len (by rfl) B.len PySem.boot_len (pa_cons (pv 0) pa_nil)) (pa_cons (pv 0) pa_nil))) fun i x hx H6 g6 Q' hQ' => ?_
      obtain ⟨pp, _, rfl, hpm, er⟩ := item i x hx
      have h6 : H6 pp.1 = some (.lst (gv pp.2)) := g6.lst (hid_keep (fun c m => by cases m) (hL4 pp hpm) fun ob z => by cases z)
      refine ⟨_, rfl, pp.1, _, rfl, .inl (SqL.of h6), _, rfl, line1000' (by show 2 ≤ 1000; decide), fun t ht => ?_⟩
      refine hQ' _ _ ((Gr.refl H6).new ht) fun Hb hB => ⟨t, pp.1, rfl, hB _ _ ?_, hB _ _ ?_⟩
      · dsimp only
        rw [upd_same, er, gv_len]
      · dsimp only
        rw [upd_ne (ne_of_none h6 ht), er]; exact h6
    · have epick : pick (shs.map (ofShape g)) = ((L.map (·.2))[bst (fun i j => rowLt ((L.map (·.2)).getD i []) ((L.map (·.2)).getD j [])) (L.map (·.2)).length]?).getD [] := by
        unfold pick
        rw [eL]
      rw [List.length_map] at hx
      rw [List.length_map] at epick
      generalize bst (fun i j => rowLt ((L.map (·.2)).getD i []) ((L.map (·.2)).getD j [])) L.length = bi at hx epick
      have gH5 : Gr T H H5 := g4.trans g5
      cases e : L[bi]? with
      | none =>
        rw [List.getElem?_map, e] at hx epick
        have hx : V.ref d = x := hx
        subst hx
        refine q H5 d gH5 hd0 ?_
        rw [epick]
        exact g5.lst hd4
      | some pp =>
        rw [List.getElem?_map, e] at hx epick
        have hx : V.ref pp.1 = x := hx
        subst hx
        have hm := List.mem_of_getElem? e
        refine q H5 pp.1 gH5 (hL pp hm).1 ?_
        rw [epick]
        exact g5.lst (hL4 pp hm)
end
end Gp

/-! ranges from a number on, by steps; comprehensions whose items are new -/
namespace L2
open PySem PySem.Spec PyProof.Rows
section
variable {X : Cx}
def rngO (a : Addr) (lo hi st : Int) : HO := .ext fun h => ∃ t u v, h.get? a = some { cls := .type "range", data := .fields #[.int lo t, .int hi u, .int st v] }
theorem call_rng2 : CallR X (.type "range") (fun xs H Q => ∃ i j : Int, xs = [.int i, .int j] ∧ ∀ r, H r = none → Q (.ref r) (upd H r (rngO r i j 1))) := by
  intro pins s σ H xs us Q I r h
  obtain ⟨i, j, rfl, q⟩ := h
  obtain ⟨t, u, rfl⟩ := Vals.int2 r
  refine call_range_2 ⟨.ref s.heap.objs.size, _, I.laid (o := rngO s.heap.objs.size i j 1) (fun b o e => Heap.get?_push_of_some _ e) (Nat.le_refl _) ?_, rfl, q _ (I.hok.fresh (Nat.le_refl _))⟩
  exact ⟨⟨_, _, _, Heap.get?_push_size _ rfl⟩, ⟨_, Heap.get?_push_size _ rfl⟩, fun h1 h2 ⟨t, u, v, e⟩ k => ⟨t, u, v, k _ e⟩⟩
theorem call_rng3 : CallR X (.type "range") (fun xs H Q => ∃ i j k : Int, xs = [.int i, .int j, .int k] ∧ 0 < k ∧ k < 1000 ∧ ∀ r, H r = none → Q (.ref r) (upd H r (rngO r i j k))) := by
  intro pins s σ H xs us Q I r h
  obtain ⟨i, j, k, rfl, k0, k1, q⟩ := h
  obtain ⟨u1, us1, rfl, ⟨t1, rfl⟩, r'⟩ : ∃ u us', us = u :: us' ∧ RelV (.int i) u ∧ Vals [.int j, .int k] us' := by cases r with | cons a b => exact ⟨_, _, rfl, a, b⟩
  obtain ⟨t, u, rfl⟩ := Vals.int2 r'
  refine call_range_3 (by omega) ⟨.ref s.heap.objs.size, _, I.laid (t' := s.toks) (o := rngO s.heap.objs.size i j k) (fun b o e => Heap.get?_push_of_some _ e) (Nat.le_refl _) ?_, rfl, q _ (I.hok.fresh (Nat.le_refl _))⟩ (Or.inl (PyProof.noPylong_small (by omega)))
  exact ⟨⟨_, _, _, Heap.get?_push_size _ rfl⟩, ⟨_, Heap.get?_push_size _ rfl⟩, fun h1 h2 ⟨t, u, v, e⟩ k => ⟨t, u, v, k _ e⟩⟩
theorem call_list_rngO (hc : X.calm = true) : CallR X (.type "list") (fun xs H Q => ∃ (p : Addr) (lo hi st : Int) (n : Nat), xs = [.ref p] ∧ H p = some (rngO p lo hi st) ∧ Builtin.Range.small lo hi st = true ∧ Builtin.Range.rangeSize lo hi st = (n : Int) ∧ n ≤ 1000 ∧ ∀ l, H l = none → Q (.ref l) (upd H l (.lst ((List.range n).map fun (i : Nat) => V.int (lo + (i : Int) * st))))) := by
  intro pins s σ H xs us Q I r h
  obtain ⟨p, lo, hi, st, n, rfl, hp, hsm, hsz, hn, q⟩ := h
  obtain ⟨u, rfl, rx⟩ := vals1 r
  cases rx
  obtain ⟨⟨t1, t2, t3, e⟩, _⟩ := I.hok p _ hp
  refine PySem.call_list_range (n := n) (I.ok.hd hc) (show IsRange s.heap p lo hi st t1 t2 t3 from e) hsm hsz (by omega) fun h' tk acc c' kp eL it => ?_
  have hv : Vals ((List.range n).map fun (i : Nat) => V.int (lo + (i : Int) * st)) acc.toList := by
    have hsz := it.1
    have key : ∀ (m : Nat) (l : List Value), l.length = m → (∀ (j : Nat) (v : Value), l[j]? = some v → ∃ t, v = Value.int (lo + (j : Int) * st) t) → Vals ((List.range m).map fun (i : Nat) => V.int (lo + (i : Int) * st)) l := by
      intro m
      induction m with
      | zero =>
        intro l hl _
        rw [List.length_eq_zero_iff.mp hl]
        exact .nil
      | succ m ih =>
        intro l hl hv
        have hne : l ≠ [] := by intro z; rw [z] at hl; simp at hl
        have hd := List.dropLast_concat_getLast hne
        have h1 := ih l.dropLast (by rw [List.length_dropLast, hl]; rfl) (fun j v hj => hv j v (by
          rw [← hd, List.getElem?_append_left (by have := (List.getElem?_eq_some_iff.mp hj).1; exact this)]
          exact hj))
        rw [← hd, List.range_succ, List.map_append]
        refine Vals.append h1 (.cons ?_ .nil)
        obtain ⟨t, et⟩ := hv m (l.getLast hne) (by
          rw [List.getLast_eq_getElem, List.getElem?_eq_getElem (by omega)]
          congr 1
          congr 1
          omega)
        exact ⟨t, et⟩
    refine key n acc.toList (by rw [Array.length_toList, hsz]) fun j v hj => ?_
    obtain ⟨t, et⟩ := it.2 j v (by rw [← Array.getElem?_toList]; exact hj)
    exact ⟨t, et⟩
  refine ⟨.ref s.heap.objs.size, _, I.laid (t' := tk) (o := .lst ((List.range n).map fun (i : Nat) => V.int (lo + (i : Int) * st))) kp (Nat.le_refl _) ?_, rfl, q _ (I.hok.fresh (Nat.le_refl _))⟩
  refine ⟨?_, acc.toList, c', hv, ?_⟩
  · rw [List.length_map, List.length_range, sizeLine_eq]; omega
  · simpa using eL
end
/-- [new thing for i in range(n)] -/
theorem lc_relR {n : Nat} {g : TG} {tt : TT} {te : TE} {vs : List Nat} {σ : L2.St} {H1 : Hp} {D : Addr} {Qd : Hp → Prop} (R : Hp → V → Nat → Prop) (hR : ∀ H H' v x, Same H H' → R H v x → R H' v x) (hRD : ∀ H v x xs, H D = some (.lst xs) → R H v x → ∀ ys, R (upd H D (.lst ys)) v x) (hD : H1 D = none) (hz : n ≤ 1000)
    (hs : ∀ i, i < n → ∀ H, Same H1 H → (∃ acc, H D = some (.lst acc)) → ∀ (k1 : VK) (k0 : Hp → Prop), (∀ v H4, Same H H4 → R H4 v i → k1 v H4) → g (.int ((i : Nat) : Int)) (wipe σ vs) H fun σ2 H2 => wipe σ2 vs = wipe σ vs ∧ tt σ2 H2 fun b H3 => if b = true then te σ2 H3 k1 else k0 H3)
    (hd : ∀ H us, Same H1 H → H D = some (.lst us) → Paired (R H) us (List.range n) → Qd H) :
    ∃ W : Nat → Nat → Hp → Prop, (∃ m, W 0 m (upd H1 D (.lst []))) ∧ ∀ i m H, W i m H →
      ((Itr 0 n).stop i H ∧ Qd H) ∨ ((Itr 0 n).go i H ∧ ∃ Nx : Hp → Prop, (∀ H', Nx H' → ∃ m', m' < m ∧ W (i + 1) m' H') ∧ ∀ x H', (Itr 0 n).yld i H x H' → g x (wipe σ vs) H' fun σ2 H2 => wipe σ2 vs = wipe σ vs ∧ tt σ2 H2 fun b H3 =>
        if b = true then te σ2 H3 fun y H4 => ∃ acc, H4 D = some (.lst acc) ∧ acc.length < sizeLine ∧ Nx (upd H4 D (.lst (acc ++ [y]))) else Nx H3) := by
  have snoc : ∀ {H : Hp} {us : List V} {l : List Nat} {v : V} {x : Nat}, Paired (R H) us l → R H v x → Paired (R H) (us ++ [v]) (l ++ [x]) := fun {H us l v x} h q => by
    induction h with
    | nil => exact .cons q .nil
    | cons a _ ih => exact .cons a ih
  refine lc_range (fun i H => Same H1 H ∧ ∃ us, H D = some (.lst us) ∧ Paired (R H) us (List.range i)) ⟨fun b o e => by rw [upd_ne (ne_of_none e hD)]; exact e, [], upd_same, .nil⟩ ?_ ?_
  · rintro i H hi ⟨s1, us, h1, p1⟩
    rw [Int.zero_add]
    refine hs i hi H s1 ⟨us, h1⟩ _ _ fun v H4 s4 rv => ?_
    have h4 := s4 _ _ h1
    refine ⟨_, h4, ?_, fun b o q => ?_, us ++ [v], upd_same, ?_⟩
    · have e1 := Paired.length p1
      rw [e1, sizeLine_eq, List.length_range]
      omega
    · rw [upd_ne (ne_of_none q hD)]
      exact s4 _ _ (s1 _ _ q)
    · rw [List.range_succ]
      exact snoc (Paired.mapP p1 fun v x q => hRD _ _ _ _ h4 (hR _ _ _ _ s4 q) _) (hRD _ _ _ _ h4 rv _)
  · rintro H ⟨s1, us, h1, p1⟩
    exact hd H us s1 h1 p1
end L2

namespace Gp
open PySem PyProof.Rows L2
open PySem.Spec hiding Row
open Gg (Graph Row joined isGraph nodes)
section
variable {P : Program} {w : World} {K : PySem.W.Frag} {mg : Str → Option Value} {base : Heap}
/-- a shape in a list of its own -/
def ShN (K : PySem.W.Frag) (H : Hp) (l : Addr) (sh : List Row) : Prop := ∃ us, H l = some (.lst us) ∧ Paired (fun u s => ∃ q, u = V.ref q ∧ H q = some (.tup (gv s))) us sh
def spRingSh (K : PySem.W.Frag) : Sp := fun vs H Q _ => ∃ k : Nat, vs = [nv k] ∧ 3 ≤ k ∧ k ≤ 8 ∧ ∀ (H' : Hp) (l : Addr), Same H H' → H l = none → ShN K H' l (Gm.ringSh k) → Q (.ref l) H'
theorem sc_ring_shape : FnScope ["length", "place"] ["length"] (defScope s_ring_shape) := ⟨rfl, rfl, rfl, by decide +kernel, rfl, by decide +kernel, by decide +kernel⟩
theorem Paired.app {α β : Type} {F : α → β → Prop} {us vs : List α} {l m : List β} (h : Paired F us l) (q : Paired F vs m) : Paired F (us ++ vs) (l ++ m) := by
  induction h with
  | nil => exact q
  | cons a _ ih => exact .cons a ih
theorem Paired.mapR {α β γ : Type} {F : α → γ → Prop} {f : β → γ} {us : List α} {l : List β} (h : Paired (fun u x => F u (f x)) us l) : Paired F us (l.map f) := by
  induction h with
  | nil => exact .nil
  | cons a _ ih => exact .cons a ih
theorem ok_ring_shape {f : Addr} {fd : FuncData} (D : Df K mg "ring_shape" s_ring_shape ["length"] f fd) (B : Bn mg) : FnOk P w K mg base CX0 1 f fd ["length"] (spRingSh K) := by
  refine D.F.ok sc_ring_shape (fun vs H Q E h => ?_) (fun cdv A outer s H vs Q E hr h => ?_)
  · obtain ⟨k, rfl, _⟩ := h
    rfl
  · obtain ⟨k, rfl, h3, h8, q⟩ := h
    refine ⟨_, pss_one (ps_ret (pe_op op_cat (pe_op op_cat (pe_lst (pa_cons (pe_tup pa_nil) pa_nil)) (pe_lc rfl sc_ring_shape.nd (pi_range1 (by rfl) B.range (pa_cons (pe_op op_sub (pv 0) pe_int) pa_nil)) (own := [("place", 1)]) (blkOk_by (by rfl))
        (fun _ _ _ _ _ => pg_name (i := 1) sc_ring_shape.nd rfl (Or.inl rfl)) (fun _ _ _ _ _ => pts_nil) (fun _ _ _ _ _ => pe_tup (pa_cons (pv 1) pa_nil))))
      (pe_lst (pa_cons (pe_tup (pa_cons pe_int (pa_cons (pe_op op_sub (pv 0) pe_int) pa_nil))) pa_nil)))), ?_⟩
    have ek : ((k : Nat) : Int) - 2 = ((k - 2 : Nat) : Int) := by omega
    refine ⟨Nat.zero_le _, fun t0 ht0 => ⟨line1000' (by show 1 ≤ 1000; decide), fun l0 hl0 => ?_⟩⟩
    have s0 : Same H (upd (upd H t0 (.tup [])) l0 (.lst [.ref t0])) := (same_new ht0).trans (same_new hl0)
    have e0 : (upd (upd H t0 (.tup [])) l0 (.lst [.ref t0])) t0 = some (.tup []) := by rw [upd_ne (fun z => by rw [← z, upd_same] at hl0; cases hl0), upd_same]
    generalize hH0 : upd (upd H t0 (.tup [])) l0 (.lst [.ref t0]) = H0 at s0 e0
    have el0 : H0 l0 = some (.lst [.ref t0]) := by rw [← hH0, upd_same]
    refine ⟨_, rfl, _, _, rfl, rfl, _, rfl, ?_⟩
    show _ ∧ _ ∧ ∀ D, _
    rw [ek]
    refine ⟨by omega, by omega, fun Dn hDn => ?_⟩
    rw [Int.toNat_natCast]
    refine lc_relR (n := k - 2) (fun H v i => ∃ q, v = V.ref q ∧ H q = some (.tup (gv [i]))) (fun H H' v x s ⟨q, e, h⟩ => ⟨q, e, s _ _ h⟩) (fun H v x xs hD ⟨q, e, h⟩ ys => ⟨q, e, by rw [upd_ne (ne_of h hD (by intro z; cases z))]; exact h⟩) hDn (by omega) ?_ ?_
    · intro i hi H2 s2 _ k1 k0 y1
      refine ⟨rfl, iteT (B := k0 H2) ⟨_, rfl, line1000' (by show 1 ≤ 1000; decide), fun t ht => y1 _ _ (same_new ht) ⟨t, rfl, upd_same⟩⟩⟩
    intro H1 us s1 h1 p1
    have hul : us.length = k - 2 := by have := Paired.length p1; rw [List.length_range] at this; exact this
    refine ⟨l0, Dn, _, _, rfl, rfl, s1 _ _ el0, h1, line1000' (by rw [hul]; show 1 + (k - 2) ≤ 1000; omega), fun l2 hl2 => ?_⟩
    have s2 : Same H1 (upd H1 l2 (.lst ([.ref t0] ++ us))) := same_new hl2
    generalize hH2 : upd H1 l2 (.lst ([.ref t0] ++ us)) = H2 at s2
    have e2 : H2 l2 = some (.lst ([.ref t0] ++ us)) := by rw [← hH2, upd_same]
    refine ⟨_, rfl, _, _, rfl, rfl, line1000' (by show 2 ≤ 1000; decide), fun t3 ht3 => ⟨line1000' (by show 1 ≤ 1000; decide), fun l3 hl3 => ?_⟩⟩
    have ht3' : upd H2 t3 (.tup [.int 0, .int (((k : Nat) : Int) - 2)]) t3 = some (.tup [.int 0, .int (((k : Nat) : Int) - 2)]) := upd_same
    have s3 : Same H2 (upd (upd H2 t3 (.tup [.int 0, .int (((k : Nat) : Int) - 2)])) l3 (.lst [.ref t3])) := (same_new ht3).trans (same_new hl3)
    have e3 : (upd (upd H2 t3 (.tup [.int 0, .int (((k : Nat) : Int) - 2)])) l3 (.lst [.ref t3])) t3 = some (.tup (gv [0, k - 2])) := by
      rw [upd_ne (ne_of_none ht3' hl3), upd_same, ek]; rfl
    refine ⟨l2, l3, _, _, rfl, rfl, s3 _ _ e2, upd_same, line1000' (by rw [List.length_append, hul]; show 1 + (k - 2) + 1 ≤ 1000; omega), fun l4 hl4 => ?_⟩
    generalize hH3 : upd (upd H2 t3 (.tup [.int 0, .int (((k : Nat) : Int) - 2)])) l3 (.lst [.ref t3]) = H3 at s3 e3 hl4
    have s4 : Same H3 (upd H3 l4 (.lst (([.ref t0] ++ us) ++ [.ref t3]))) := same_new hl4
    have sH3 : Same H H3 := s0.trans (s1.trans (s2.trans s3))
    refine q _ l4 (sH3.trans s4) (sH3.free hl4) ⟨_, upd_same, ?_⟩
    unfold Gm.ringSh
    refine Paired.app (Paired.app (.cons ⟨t0, rfl, s4 _ _ (s3 _ _ (s2 _ _ (s1 _ _ e0)))⟩ .nil) (Paired.mapR (f := fun i => [i]) (Paired.mapP p1 fun v i ⟨q, e, h⟩ => ⟨q, e, s4 _ _ (s3 _ _ (s2 _ _ h))⟩))) (.cons ⟨t3, rfl, s4 _ _ e3⟩ .nil)
end
end Gp

/-! the first of some rows, the lengths rising -/
namespace Gp
open PySem L2
open Gg (Graph Row)
theorem bst_zero {better : Nat → Nat → Bool} : ∀ n, (∀ j, j < n → better j 0 = false) → bst better n = 0
  | 0, _ => rfl
  | n + 1, h => by
    show (if n = 0 then 0 else if better n (bst better n) = true then n else bst better n) = 0
    by_cases z : n = 0
    · rw [if_pos z]
    · rw [if_neg z, bst_zero n fun j hj => h j (by omega), if_neg (by rw [h n (by omega)]; decide)]
theorem pick_rise (F : Nat → Option Row) : ∀ (ks : List Nat), ks.Pairwise (· < ·) → (∀ k ∈ ks, ∀ r, F k = some r → r.length = k) → (∀ k ∈ ks, 1 ≤ k) → pick (ks.map fun k => (F k).getD []) = (ks.findSome? F).getD []
  | [], _, _, _ => rfl
  | k :: ks, hp, hl, h1 => by
    have hp' := List.pairwise_cons.mp hp
    cases e : F k with
    | none =>
      have ih := pick_rise F ks hp'.2 (fun k hk => hl k (List.mem_cons_of_mem _ hk)) fun k hk => h1 k (List.mem_cons_of_mem _ hk)
      rw [List.findSome?_cons, e]
      dsimp only
      rw [← ih]
      unfold pick
      rw [List.map_cons, e]
      rfl
    | some r =>
      have hr := hl k List.mem_cons_self r e
      have hne : r.isEmpty = false := by
        cases r with
        | nil => have := h1 k List.mem_cons_self; simp at hr; omega
        | cons _ _ => rfl
      rw [List.findSome?_cons, e]
      dsimp only
      unfold pick
      have ef : ((k :: ks).map fun k => (F k).getD []).filter (fun r => !r.isEmpty) = r :: (ks.map fun k => (F k).getD []).filter (fun r => !r.isEmpty) := by
        rw [List.map_cons, e]
        show List.filter _ (r :: _) = _
        rw [List.filter_cons_of_pos (by rw [hne]; rfl)]
      rw [ef]
      have hz : bst (fun i j => rowLt ((r :: (ks.map fun k => (F k).getD []).filter (fun r => !r.isEmpty)).getD i []) ((r :: (ks.map fun k => (F k).getD []).filter (fun r => !r.isEmpty)).getD j [])) (r :: (ks.map fun k => (F k).getD []).filter (fun r => !r.isEmpty)).length = 0 := by
        refine bst_zero _ fun j hj => ?_
        show rowLt ((r :: (ks.map fun k => (F k).getD []).filter (fun r => !r.isEmpty)).getD j []) r = false
        cases j with
        | zero =>
          show rowLt r r = false
          unfold rowLt
          rw [if_pos rfl, lexN_self]
        | succ j =>
          have hj' : j < ((ks.map fun k => (F k).getD []).filter (fun r => !r.isEmpty)).length := by simpa using hj
          rw [List.getD_cons_succ, List.getD_eq_getElem?_getD, List.getElem?_eq_getElem hj']
          have hm := List.getElem_mem hj'
          obtain ⟨hm1, hm2⟩ := List.mem_filter.mp hm
          obtain ⟨k', hk', ek'⟩ := List.mem_map.mp hm1
          generalize hx : ((ks.map fun k => (F k).getD []).filter (fun r => !r.isEmpty))[j] = x at *
          show rowLt x r = false
          cases e' : F k' with
          | none =>
            rw [e'] at ek'
            have ek' : [] = x := ek'
            rw [← ek'] at hm2
            cases hm2
          | some r' =>
            rw [e'] at ek'
            have ek' : r' = x := ek'
            subst ek'
            have hr' := hl k' (List.mem_cons_of_mem _ hk') r' e'
            have := hp'.1 k' hk'
            unfold rowLt
            rw [if_neg (by omega), decide_eq_false (by omega)]
      rw [hz]
      rfl
end Gp

namespace Gp
open PySem PyProof.Rows L2
open PySem.Spec hiding Row
open Gg (Graph Row joined isGraph nodes)
section
variable {P : Program} {w : World} {K : PySem.W.Frag} {mg : Str → Option Value} {base : Heap} {T : List Tab}
def spRing (T : List Tab) (K : PySem.W.Frag) : Sp := fun vs H Q _ => ∃ (a b : Addr) (g : Graph) (ks : List Nat), vs = [.ref a, .ref b] ∧ SqL K H a (gv g) ∧ Gm.Ok g ∧ SqL K H b (gv ks) ∧ ks.length ≤ 8 ∧ (∀ k ∈ ks, 3 ≤ k ∧ k ≤ 8) ∧ ks.Pairwise (· < ·) ∧ TB T H ∧
  ∀ (H' : Hp) (l : Addr), Gr T H H' → H l = none → H' l = some (.lst (gv ((ks.findSome? fun k => Gg.chordless g k).getD []))) → Q (.ref l) H'
theorem sc_first_ring : FnScope ["graph", "lengths", "length"] ["graph", "lengths"] (defScope s_first_ring) := ⟨rfl, rfl, rfl, by decide +kernel, rfl, by decide +kernel, by decide +kernel⟩
theorem ShN.gr {H H' : Hp} {l : Addr} {sh : List Row} (h : ShN K H l sh) (g : Gr T H H') : ShN K H' l sh := by
  obtain ⟨us, h1, h2⟩ := h
  exact ⟨us, g.lst h1, Paired.mapP h2 fun u s ⟨q, e, z⟩ => ⟨q, e, g.tup z⟩⟩
theorem ok_first_ring {f fG fH fS fR fY fJ : Addr} {fd fdG fdH fdS fdR fdY fdJ : FuncData} (ct : Ct T mg base) (D : Df K mg "first_ring" s_first_ring ["graph", "lengths"] f fd) (DG : Df K mg "ring_shape" s_ring_shape ["length"] fG fdG)
    (DH : Dl T K mg base "first_shaped" s_first_shaped ["graph", "shapes"] fH fdH) (DS : Dl T K mg base "first_of_shape" s_first_of_shape ["graph", "shape"] fS fdS) (DR : Df K mg "first_row" s_first_row ["length", "choices", "fits"] fR fdR) (DY : Df K mg "keeps_shape" s_keeps_shape ["graph", "shape", "row", "node"] fY fdY) (DJ : Df K mg "joined" s_joined ["graph", "node", "other"] fJ fdJ) (B : Bn mg) :
    FnOk P w K mg base CX0 7 f fd ["graph", "lengths"] (spRing T K) := by
  have GG : FnOk P w K mg base CX0 6 fG fdG ["length"] (spRingSh K) := (ok_ring_shape DG B).mono (by decide)
  have GH : FnOk P w K mg base CX0 6 fH fdH ["graph", "shapes"] (spShaped T K) := ok_first_shaped ct DH DS DR DY DJ B
  refine D.F.ok sc_first_ring (fun vs H Q E h => ?_) (fun cdv A outer s H vs Q E hr h => ?_)
  · obtain ⟨a, b, g, ks, rfl, _⟩ := h
    rfl
  · obtain ⟨a, b, g, ks, rfl, hS, o, hb, hl8, hk8, hrise, tb, q⟩ := h
    refine ⟨_, pss_one (ps_ret (pe_call GH hr (by rfl) DH.d.m DH.d.F.kp DH.d.b .nil pass0 (pa_cons (pv 0) (pa_cons (pe_lc rfl sc_first_ring.nd (pi_list (pv 1)) (own := [("length", 2)]) (blkOk_by (by rfl))
        (fun _ _ _ _ _ => pg_name (i := 2) sc_first_ring.nd rfl (Or.inl rfl)) (fun _ _ _ _ _ => pts_nil)
        (fun _ _ _ _ _ => pe_call GG hr (by rfl) DG.m DG.F.kp DG.b .nil pass0 (pa_cons (pv 2) pa_nil))) pa_nil)))), ?_⟩
    have prI : Paired (fun u k => u = nv k ∧ 3 ≤ k ∧ k ≤ 8) (gv ks) ks := by
      have : ∀ l : List Nat, (∀ k ∈ l, 3 ≤ k ∧ k ≤ 8) → Paired (fun u k => u = nv k ∧ 3 ≤ k ∧ k ≤ 8) (gv l) l := by
        intro l
        induction l with
        | nil => intro _; exact .nil
        | cons x l ih => intro h; exact .cons ⟨rfl, h x List.mem_cons_self⟩ (ih fun k hk => h k (List.mem_cons_of_mem _ hk))
      exact this ks hk8
    refine ⟨_, rfl, _, rfl, b, rfl, ⟨_, hb⟩, fun Dn hDn => (lc_pickGT (T := T) (r := ks) (us0 := gv ks) (fun u k => u = nv k ∧ 3 ≤ k ∧ k ≤ 8) prI (fun H1 v k => ∃ p, v = V.ref p ∧ p ≠ Dn ∧ ShN K H1 p (Gm.ringSh k))
      (fun H1 H2 v k gg ⟨p, h1, h2, h3⟩ => ⟨p, h1, h2, h3.gr gg⟩) (fun H1 v k xs hD ⟨p, h1, h2, us, h3, h4⟩ ys => ⟨p, h1, h2, us, by rw [upd_ne h2]; exact h3, Paired.mapP h4 fun u s ⟨q, e, z⟩ => ⟨q, e, by rw [upd_ne (ne_of z hD (by intro y; cases y))]; exact z⟩⟩) (.inl hb) hDn (by omega) ?_ ?_).1 hb⟩
    · intro k u hu H1 g1 hacc k1 k0 y1
      obtain ⟨rfl, k3, k8⟩ := hu
      obtain ⟨acc, hacc⟩ := hacc
      refine ⟨rfl, iteT (B := k0 H1) ⟨_, rfl, k, rfl, k3, k8, fun H2 l s2 hl hN => ?_⟩⟩
      exact y1 _ H2 (.of s2) ⟨l, rfl, (ne_of_none hacc hl).symm, hN⟩
    intro H1 us g1 h1 pr1
    refine ⟨a, g, ks.map Gm.ringSh, .ref Dn, rfl, g1.seq hS, o, ⟨Dn, us, rfl, SqL.of h1, Paired.mapR (f := Gm.ringSh) (Paired.mapP pr1 fun v k ⟨p, e, _, us', h3, h4⟩ => ⟨p, us', e, .inl (SqL.of h3), Paired.mapP h4 fun u s ⟨q, e, z⟩ => ⟨q, e, SqT.of z⟩⟩)⟩, by rw [List.length_map]; exact hl8, fun sh m => ?_, g1.tb tb, fun H2 l g2 hl h2 => ?_⟩
    · obtain ⟨k, hk, rfl⟩ := List.mem_map.mp m
      have := hk8 k hk
      rw [Gm.ringSh_len (by omega)]
      exact this.2
    · refine q H2 l (g1.trans g2) (g1.free hl) ?_
      rw [h2, List.map_map]
      have e : ks.map (ofShape g ∘ Gm.ringSh) = ks.map fun k => (Gg.chordless g k).getD [] := by
        refine List.map_congr_left fun k hk => ?_
        show (Gm.dfs (Gm.shP g (Gm.ringSh k)) (nodes g) (Gm.ringSh k).length (Gm.ringSh k).length []).getD [] = _
        have := hk8 k hk
        rw [Gm.ringSh_len (by omega), Gm.chordless_dfs this.1]
      rw [e, pick_rise (fun k => Gg.chordless g k) ks hrise (fun k hk r hr => Gm.chordless_len (by have := hk8 k hk; omega) hr) fun k hk => by have := hk8 k hk; omega]
end
end Gp

namespace Gp
open PySem PyProof.Rows L2
open PySem.Spec hiding Row
open Gg (Graph Row joined isGraph nodes)
theorem rng_from (lo n : Nat) (hlo : lo ≤ 100) (hn : n ≤ 1000) : Builtin.Range.small (lo : Int) ((n : Nat) : Int) 1 = true ∧ Builtin.Range.rangeSize (lo : Int) ((n : Nat) : Int) 1 = ((n - lo : Nat) : Int) := by
  refine ⟨small_one (by omega) (by omega) (by omega) (by omega), ?_⟩
  rw [rangeSize_one]
  split <;> omega
theorem gv_from (lo m : Nat) : (List.range m).map (fun (i : Nat) => V.int ((lo : Int) + (i : Int) * 1)) = gv ((List.range m).map fun i => lo + i) := by
  unfold gv
  rw [List.map_map]
  refine List.map_congr_left fun i _ => ?_
  show V.int _ = V.int (((lo + i : Nat)) : Int)
  congr 1
  omega
theorem ring_ne {g : Graph} {ks : List Nat} (hk : ∀ k ∈ ks, 3 ≤ k) {r : Row} (h : (ks.findSome? fun k => Gg.chordless g k) = some r) : r ≠ [] ∧ ∃ k ∈ ks, r.length = k := by
  obtain ⟨k, hm, e⟩ := List.exists_of_findSome?_eq_some h
  have := Gm.chordless_len (by have := hk k hm; omega) e
  refine ⟨fun z => ?_, k, hm, this⟩
  rw [z] at this
  have := hk k hm
  simp at *
  omega
end Gp

namespace Gp
open PySem PyProof.Rows L2
open PySem.Spec hiding Row
open Gg (Graph Row joined isGraph nodes)
section
variable {P : Program} {w : World} {K : PySem.W.Frag} {mg : Str → Option Value} {base : Heap}
/-- any two nodes of the set are joined -/
def spClique (K : PySem.W.Frag) : Sp := fun vs H Q _ => ∃ (a : Addr) (g : Graph) (s : Nat), vs = [.ref a, nv s] ∧ SqL K H a (gv g) ∧ g.length ≤ 8 ∧ s < 2 ^ g.length ∧ ∀ H', Same H H' → Q (.bl (Gm.cliqueP g s)) H'
theorem sc_is_clique : FnScope ["graph", "nodes", "node"] ["graph", "nodes"] (defScope s_is_clique) := ⟨rfl, rfl, rfl, by decide +kernel, rfl, by decide +kernel, by decide +kernel⟩
theorem dec_nat (a b : Nat) : decide (V.int (a : Int) = V.int (b : Int)) = decide (a = b) := nv_eq a b
theorem ok_is_clique {f fM : Addr} {fd fdM : FuncData} {t8 : Tok} (D : Df K mg "is_clique" s_is_clique ["graph", "nodes"] f fd) (DM : Df K mg "members" s_members ["nodes"] fM fdM) (B : Bn mg) (h8 : mg "MOST_NODES" = some (.int 8 t8)) : FnOk P w K mg base CX0 2 f fd ["graph", "nodes"] (spClique K) := by
  have GM : FnOk P w K mg base CX0 1 fM fdM ["nodes"] spMembers := ok_members DM B h8
  refine D.F.ok sc_is_clique (fun vs H Q E h => ?_) (fun cdv A outer s H vs Q E hr h => ?_)
  · obtain ⟨a, g, s, rfl, _⟩ := h
    rfl
  · obtain ⟨a, g, t, rfl, hS, h8, ht, q⟩ := h
    refine ⟨_, pss_one (ps_ret (pe_callB (cr_all rfl) (by rfl) B.all boot_all (pa_cons (pe_lc rfl sc_is_clique.nd (pi_list (pe_call GM hr (by rfl) DM.m DM.F.kp DM.b .nil pass0 (pa_cons (pv 1) pa_nil))) (own := [("node", 2)]) (blkOk_by (by rfl))
        (fun _ _ _ _ _ => pg_name (i := 2) sc_is_clique.nd rfl (Or.inl rfl)) (fun _ _ _ _ _ => pts_nil)
        (fun _ _ _ _ _ => pe_cmpR op_eq (pe_op op_and (pe_op op_or (pe_ix (r := rIxL K) ix_list (pv 0) (pv 2) (fun _ _ => rfl)) (pe_op op_shl pe_int (pv 2))) (pv 1)) (pv 1) (nomark _))) pa_nil))), ?_⟩
    refine ⟨_, rfl, t, rfl, fun H1 l s1 hl h1 => ⟨l, rfl, ⟨_, SqL.of h1⟩, fun Dn hDn => ?_⟩⟩
    rw [show mem8 t = Gg.members g t from Gm.members_eight h8 ht] at h1
    refine lc_pick (r := Gg.members g t) (φ := nv) (fun _ => true) (fun v => V.bl (decide ((g.getD v 0 ||| 2 ^ v) &&& t = t))) (SqL.of h1) hDn (by
        have := List.length_filter_le (fun v => Gg.isIn t v) (nodes g)
        unfold nodes at this
        rw [List.length_range] at this
        have e : Gg.members g t = (List.range g.length).filter fun v => Gg.isIn t v := rfl
        rw [e]
        omega) ?_ ?_
    · intro v hv H2 s2 k1 k0 y1 y0
      have hvl := (Gm.mem_members.mp hv).1
      refine ⟨rfl, iteT (B := k0 H2) ⟨_, rfl, _, rfl, a, _, _, _, rfl, rfl, s2.seq (s1.seq hS), gv_at hvl, _, rfl, _, _, rfl, rfl, ⟨Int.natCast_nonneg _, by omega, by decide⟩, _, _, rfl, rfl, _, rfl, _, _, rfl, rfl, _, rfl, rfl, ?_⟩⟩
      show k1 (V.bl (decide (V.int (Builtin.bitAnd (Builtin.bitOr ((g.getD v 0 : Nat) : Int) (1 * 2 ^ (((v : Nat) : Int).toNat))) ((t : Nat) : Int)) = V.int ((t : Nat) : Int)))) H2
      have e : decide (V.int (Builtin.bitAnd (Builtin.bitOr ((g.getD v 0 : Nat) : Int) (1 * 2 ^ (((v : Nat) : Int).toNat))) ((t : Nat) : Int)) = V.int ((t : Nat) : Int)) = decide ((g.getD v 0 ||| 2 ^ v) &&& t = t) := by
        rw [shl_one, or_nat, and_nat, dec_nat]
      rw [e]
      exact y1 rfl H2 (Same.refl _)
    · intro H2 s2 h2
      rw [List.filter_eq_self.mpr (fun _ _ => rfl)] at h2
      refine ⟨Dn, (Gg.members g t).map fun v => decide ((g.getD v 0 ||| 2 ^ v) &&& t = t), rfl, ?_, ?_⟩
      · rw [List.map_map]; exact SqL.of h2
      · have e : ((Gg.members g t).map fun v => decide ((g.getD v 0 ||| 2 ^ v) &&& t = t)).all id = Gm.cliqueP g t := by
          rw [List.all_map]; rfl
        rw [e]
        exact q H2 (s1.trans s2)
end
end Gp

namespace Gp
open PySem PyProof.Rows L2
open PySem.Spec hiding Row
open Gg (Graph Row joined isGraph nodes)
section
variable {P : Program} {w : World} {K : PySem.W.Frag} {mg : Str → Option Value} {base : Heap}
def spGreatest (K : PySem.W.Frag) : Sp := fun vs H Q _ => ∃ (a : Addr) (g : Graph), vs = [.ref a] ∧ SqL K H a (gv g) ∧ Gm.Ok g ∧ ∀ (H' : Hp) (l : Addr), Same H H' → H l = none → H' l = some (.lst (gv (Gg.cliques g))) → Q (.ref l) H'
theorem sc_greatest_cliques : FnScope ["graph", "found", "nodes", "number"] ["graph"] (defScope s_greatest_cliques) := ⟨rfl, rfl, rfl, by decide +kernel, rfl, by decide +kernel, by decide +kernel⟩
theorem ok_greatest_cliques {f fM fC : Addr} {fd fdM fdC : FuncData} {t8 : Tok} (D : Df K mg "greatest_cliques" s_greatest_cliques ["graph"] f fd) (DC : Df K mg "is_clique" s_is_clique ["graph", "nodes"] fC fdC) (DM : Df K mg "members" s_members ["nodes"] fM fdM) (B : Bn mg) (h8 : mg "MOST_NODES" = some (.int 8 t8)) : FnOk P w K mg base CX0 3 f fd ["graph"] (spGreatest K) := by
  have GC : FnOk P w K mg base CX0 2 fC fdC ["graph", "nodes"] (spClique K) := ok_is_clique DC DM B h8
  refine D.F.ok sc_greatest_cliques (fun vs H Q E h => ?_) (fun cdv A outer s H vs Q E hr h => ?_)
  · obtain ⟨a, g, rfl, _⟩ := h
    rfl
  · obtain ⟨a, g, rfl, hS, o, q⟩ := h
    have h8 := o.le
    refine ⟨_, pss_cons (ps_set (i := 1) sc_greatest_cliques.nd rfl (Or.inl rfl) (pe_lst pa_nil))
      (pss_cons (ps_for PassesOwn.never rfl (pi_range2 (by rfl) B.range (pa_cons pe_int (pa_cons (pe_op op_shl pe_int (pe_callB call_len_seq (by rfl) B.len PySem.boot_len (pa_cons (pv 0) pa_nil))) pa_nil))) (pg_name (i := 2) sc_greatest_cliques.nd rfl (Or.inr rfl))
        (pss_one (ps_if (pw_and (pt_val (pe_call GC hr (by rfl) DC.m DC.F.kp DC.b .nil pass0 (pa_cons (pv 0) (pa_cons (pv 2) pa_nil)))) (pw_and1 (pt_not (pt_val (pe_callB (cr_any rfl) (by rfl) B.any boot_any (pa_cons
            (pe_lc rfl sc_greatest_cliques.nd (pi_list (pv 0)) (own := [("number", 3)]) (blkOk_by (by rfl))
              (fun _ _ _ _ _ => pg_name (i := 3) sc_greatest_cliques.nd rfl (Or.inl rfl)) (fun _ _ _ _ _ => pts_nil)
              (fun _ _ _ _ _ => pe_cmpR op_eq (pe_op op_and (pv 3) (pv 2)) (pv 2) (nomark _))) pa_nil)))))).pt
          (pss_one (ps_expr (pe_bm PySem.F.plainAttrs_list PySem.F.slot_list_append PySem.F.type_list_append mt_append (pv 1) (pa_cons (pv 2) pa_nil)))) pss_nil)))
      (pss_one (ps_ret (pv 1)))), ?_⟩
    refine ⟨Nat.zero_le _, fun l hl => ?_⟩
    have s0 : Same H (upd H l (.lst [])) := same_new hl
    have pw : (2 : Nat) ^ g.length ≤ 256 := Nat.pow_le_pow_right (n := 2) (j := 8) (by decide) h8
    have pp := Nat.two_pow_pos g.length
    refine ⟨_, rfl, a, _, rfl, .inl (s0.seq hS), _, _, rfl, rfl, ⟨Int.natCast_nonneg _, by rw [gv_len]; omega, by decide⟩, _, _, rfl, ?_⟩
    rw [gv_len]
    have e2 : (1 : Int) * 2 ^ (((g.length : Nat) : Int).toNat) = ((2 ^ g.length : Nat) : Int) := shl_one _
    have e3 : (((2 ^ g.length : Nat) : Int) - 1).toNat = 2 ^ g.length - 1 := by omega
    show _ ∧ ∃ W : Nat → Nat → L2.St → Hp → Prop, _
    rw [e2]
    refine ⟨⟨by decide, by decide, by omega, by omega⟩, ?_⟩
    rw [e3]
    refine for_range (lo := 1) (n := 2 ^ g.length - 1) (fun i σ H' => ∃ v2 v3 : Option V, σ = [some (.ref a), some (.ref l), v2, v3] ∧ Same H H' ∧ H' l = some (.lst (gv (((List.range i).map (fun i => 1 + i)).filter (Gm.great g)))))
      ⟨none, none, rfl, s0, upd_same⟩ ?_ ?_
    · rintro i σ H1 hi ⟨v2, v3, rfl, s1, h1⟩
      have hs : 1 + i < 2 ^ g.length := by omega
      have ei : ((1 : Int) + (i : Int)) = ((1 + i : Nat) : Int) := by omega
      rw [ei]
      have step : ((List.range (i + 1)).map (fun i => 1 + i)).filter (Gm.great g) = ((List.range i).map (fun i => 1 + i)).filter (Gm.great g) ++ (if Gm.great g (1 + i) = true then [1 + i] else []) := by
        rw [List.range_succ, List.map_append, List.filter_append]
        congr 1
        cases z : Gm.great g (1 + i) with
        | true => rw [List.map_cons, List.map_nil, List.filter_cons_of_pos z]; rfl
        | false => rw [List.map_cons, List.map_nil, List.filter_cons_of_neg (by rw [z]; decide)]; rfl
      refine ⟨_, rfl, _, rfl, a, g, 1 + i, rfl, s1.seq hS, h8, hs, fun H2 s2 => ⟨_, rfl, ite2 (fun hc => ?_) (fun hc => ?_)⟩⟩
      · refine ⟨_, rfl, a, rfl, ⟨_, s2.seq (s1.seq hS)⟩, fun Dn hDn => ?_⟩
        refine lc_pick (r := g) (φ := nv) (fun _ => true) (fun x => V.bl (decide (x &&& (1 + i) = 1 + i))) (s2.seq (s1.seq hS)) hDn (by omega) ?_ ?_
        · intro x hx H3 s3 k1 k0 y1 y0
          refine ⟨rfl, iteT (B := k0 H3) ⟨_, rfl, _, rfl, _, _, rfl, rfl, _, rfl, rfl, ?_⟩⟩
          have e : decide (V.int (Builtin.bitAnd ((x : Nat) : Int) ((1 + i : Nat) : Int)) = V.int ((1 + i : Nat) : Int)) = decide (x &&& (1 + i) = 1 + i) := by
            rw [and_nat, dec_nat]
          show k1 (V.bl (decide (V.int (Builtin.bitAnd ((x : Nat) : Int) ((1 + i : Nat) : Int)) = V.int ((1 + i : Nat) : Int)))) H3
          rw [e]
          exact y1 rfl H3 (Same.refl _)
        intro H3 s3 h3
        rw [List.filter_eq_self.mpr (fun _ _ => rfl)] at h3
        refine ⟨Dn, g.map fun x => decide (x &&& (1 + i) = 1 + i), rfl, by rw [List.map_map]; exact SqL.of h3, _, rfl, ?_⟩
        have ea : (g.map fun x => decide (x &&& (1 + i) = 1 + i)).any id = Gm.insideP g (1 + i) := by rw [List.any_map]; rfl
        rw [ea]
        refine ite2 (fun hn => ?_) (fun hn => ?_)
        · have gr : Gm.great g (1 + i) = true := by unfold Gm.great; rw [hc, hn]; rfl
          have h1' := s3 _ _ (s2 _ _ h1)
          refine ⟨_, rfl, .inl ⟨rfl, _, SqL.of h1'⟩, _, rfl, l, _, _, rfl, rfl, h1', line1000 ?_, ?_⟩
          · rw [gv_len]
            have := List.length_filter_le (Gm.great g) ((List.range i).map (fun i => 1 + i))
            rw [List.length_map, List.length_range] at this
            omega
          · refine ⟨_, _, rfl, Same.put (s1.trans (s2.trans s3)) hl, ?_⟩
            rw [upd_same, step, if_pos gr, gv_snoc]
            rfl
        · have gr : ¬ Gm.great g (1 + i) = true := by
            unfold Gm.great
            rw [hc, Bool.true_and]
            exact hn
          refine ⟨_, _, rfl, s1.trans (s2.trans s3), ?_⟩
          rw [step, if_neg gr, List.append_nil]
          exact s3 _ _ (s2 _ _ h1)
      · have gr : ¬ Gm.great g (1 + i) = true := by
          unfold Gm.great
          rw [Bool.eq_false_iff.mpr hc, Bool.false_and]; decide
        refine iteF ⟨_, _, rfl, s1.trans s2, ?_⟩
        rw [step, if_neg gr, List.append_nil]
        exact s2 _ _ h1
    · rintro σ H1 ⟨v2, v3, rfl, s1, h1⟩
      refine ⟨_, rfl, q H1 l s1 hl ?_⟩
      rw [h1, Gm.cliques_from o]
end
end Gp

/-! all that one comes to, step by step -/
namespace Gp
open PySem PyProof.Rows L2
open PySem.Spec hiding Row
open Gg (Graph Row)
/-- how a thing stands in the heap: kept by what's kept -/
structure ElOk {α : Type} (T : List Tab) (R : Hp → V → α → Prop) : Prop where
  gr : ∀ {H H' : Hp} {v : V} {x : α}, Gr T H H' → R H v x → R H' v x
  put : ∀ {H : Hp} {l : Addr} {xs ys : List V} {v : V} {x : α}, H l = some (.lst xs) → R H v x → R (upd H l (.lst ys)) v x
  hid : ∀ {H : Hp} {cs : List Addr} {v : V} {x : α}, Cl H cs → R H v x → R (hid cs H) v x
  bck : ∀ {cs : List Addr} {H1 H2 : Hp} {v : V} {x : α}, (∀ c ∈ cs, H2 c = none) → R H2 v x → R (bck cs H1 H2) v x
/-- a lambda of one parameter: what comes next -/
def Cb1 {α : Type} (P : Program) (w : World) (K : PySem.W.Frag) (mg : Str → Option Value) (base : Heap) (T : List Tab) (kk : Nat) (H : Hp) (f : Addr) (R : Hp → V → α → Prop) (U : List α) (nx : α → List α) : Prop :=
  ∃ (fd : FuncData) (ps : List Str) (sp : Sp) (o : Obj), FnOk P w K mg base CX0 kk f fd ps sp ∧ (∀ (s : Shared) (us : List Value), us.length = ps.length → BindsTo s fd ⟨us, []⟩ (ps.zip us)) ∧ H f = some (fz o) ∧ (∃ oc od fd' sl, o = ⟨oc, od, .func fd', sl⟩) ∧
    ∀ H1, Gr T H H1 → ∀ (v : V) (x : α), R H1 v x → x ∈ U → ∀ Q : VK, (∀ H2 l us, Gr T H1 H2 → H1 l = none → H2 l = some (.lst us) → Paired (R H2) us (nx x) → Q (.ref l) H2) → sp [v] H1 Q E0
section
variable {α : Type} [BEq α] [LawfulBEq α] {P : Program} {w : World} {K : PySem.W.Frag} {mg : Str → Option Value} {base : Heap} {T : List Tab}
def spReached (P : Program) (w : World) (K : PySem.W.Frag) (mg : Str → Option Value) (base : Heap) (T : List Tab) (kk : Nat) (R : Hp → V → α → Prop) : Sp := fun vs H Q _ => ∃ (v : V) (f : Addr) (x : α) (U : List α) (nx : α → List α), vs = [v, .ref f] ∧ R H v x ∧ x ∈ U ∧ U.length ≤ 1000 ∧ (∀ x ∈ U, ∀ z ∈ nx x, z ∈ U) ∧ Cb1 P w K mg base T kk H f R U nx ∧
  ∀ (H' : Hp) (l : Addr) (us : List V) (xs : List α), Gr T H H' → H l = none → H' l = some (.lst us) → Paired (R H') us xs → xs.Nodup → (∀ y, y ∈ xs ↔ Gm.Rt nx x y) → xs.length ≤ 1000 → Q (.ref l) H'
theorem sc_reached : FnScope ["start", "following", "found", "waiting", "other"] ["start", "following"] (defScope s_reached) := ⟨rfl, rfl, rfl, by decide +kernel, rfl, by decide +kernel, by decide +kernel⟩
theorem Paired.at_ {α β : Type} {F : α → β → Prop} {us : List α} {l : List β} (h : Paired F us l) : ∀ {i : Nat} {u : α}, us[i]? = some u → ∃ x, l[i]? = some x ∧ F u x := by
  induction h with
  | nil => intro i u e; simp at e
  | cons a _ ih =>
    intro i u e
    cases i with
    | zero =>
      simp at e
      subst e
      exact ⟨_, rfl, a⟩
    | succ i =>
      obtain ⟨x, h1, h2⟩ := ih (i := i) (by simpa using e)
      exact ⟨x, by simpa using h1, h2⟩
theorem ok_reached {f : Addr} {fd : FuncData} {kk : Nat} {R : Hp → V → α → Prop} (EL : ElOk T R) (rN : R2) (opN : ∀ X : Cx, X.K = K → X.A.units + 64 < cLine → OpR X (compareOp .NotIn) rN)
    (hN : ∀ (H : Hp) (v : V) (x : α) (p : Addr) (us : List V) (xs : List α) (Q : VK), R H v x → H p = some (.lst us) → Paired (R H) us xs → Q (.bl (!xs.contains x)) H → rN v (.ref p) H Q)
    (D : Df K mg "reached" s_reached ["start", "following"] f fd) (B : Bn mg) : FnOk P w K mg base CX0 (kk + 1) f fd ["start", "following"] (spReached P w K mg base T kk R) := by
  refine D.F.ok sc_reached (fun vs H Q E h => ?_) (fun cdv A outer s H vs Q E hr h => ?_)
  · obtain ⟨v, f, x, U, nx, rfl, _⟩ := h
    rfl
  · obtain ⟨v, f, x, U, nx, rfl, hx, hxU, hU1, hU, ⟨fdL, psL, spL, oL, FL, bL, hfL, hoL, cbL⟩, q⟩ := h
    refine ⟨_, pss_cons (ps_set (i := 2) sc_reached.nd rfl (Or.inl rfl) (pe_lst (pa_cons (pv 0) pa_nil)))
      (pss_cons (ps_set (i := 3) sc_reached.nd rfl (Or.inl rfl) (pe_lst (pa_cons (pv 0) pa_nil)))
      (pss_cons (ps_while PassesOwn.never (pt_truth (pv 3) (fun _ => rfl))
        (pss_one (ps_for PassesOwn.never rfl (pi_list (pe_callV (i := 1) hr rfl (Or.inl rfl) (pa_cons (pe_bm0 PySem.F.plainAttrs_list PySem.F.slot_list_pop PySem.F.type_list_pop mt_pop (pv 3)) pa_nil))) (pg_name (i := 4) sc_reached.nd rfl (Or.inl rfl))
          (pss_one (ps_if (pt_cmpR (opN _ rfl hr.units) (pv 4) (pv 2) (by rfl))
            (pss_cons (ps_expr (pe_bm PySem.F.plainAttrs_list PySem.F.slot_list_append PySem.F.type_list_append mt_append (pv 2) (pa_cons (pv 4) pa_nil)))
            (pss_one (ps_expr (pe_bm PySem.F.plainAttrs_list PySem.F.slot_list_append PySem.F.type_list_append mt_append (pv 3) (pa_cons (pv 4) pa_nil))))) pss_nil)))))
      (pss_one (ps_ret (pv 2))))), ?_⟩
    refine ⟨_, rfl, line1000' (by show 1 ≤ 1000; decide), fun lf hlf => ⟨_, rfl, line1000' (by show 1 ≤ 1000; decide), fun lw hlw => ?_⟩⟩
    have g0 : Gr T H (upd H lf (.lst [v])) := (Gr.refl H).new hlf
    have g1 : Gr T H (upd (upd H lf (.lst [v])) lw (.lst [v])) := g0.new hlw
    have nfw : lf ≠ lw := fun z => by rw [← z, upd_same] at hlw; cases hlw
    have hlw0 : H lw = none := by
      rw [← upd_ne (Ne.symm nfw) (H := H) (o := .lst [v])]; exact hlw
    refine ⟨fun m σ H1 => ∃ (v4 : Option V) (us us2 : List V) (xs ws : List α), σ = [some v, some (.ref f), some (.ref lf), some (.ref lw), v4] ∧ Gr T H H1 ∧ H1 lf = some (.lst us) ∧ Paired (R H1) us xs ∧ H1 lw = some (.lst us2) ∧ Paired (R H1) us2 ws ∧ Gm.InvR nx U x xs ws ∧ m = 2 * (U.length - xs.length) + ws.length,
      ⟨_, none, [v], [v], [x], [x], rfl, g1, by rw [upd_ne nfw, upd_same], .cons (EL.gr g1 hx) .nil, upd_same, .cons (EL.gr g1 hx) .nil, Gm.InvR.start hxU, rfl⟩, ?_⟩
    rintro m σ H1 ⟨v4, us, us2, xs, ws, rfl, gH, hf1, pr, hw1, pr2, inv, rfl⟩
    have xl : ∀ {xs : List α}, xs.Nodup → (∀ y ∈ xs, y ∈ U) → xs.length ≤ U.length := fun nd h => Gm.nodup_le nd h
    refine ⟨_, rfl, _, .inl ⟨_, SqL.of hw1, rfl⟩, ite2 (fun e => ?_) (fun e => ?_)⟩
    · have hne : ws ≠ [] := by
        intro z
        subst z
        cases pr2
        simp at e
      obtain ⟨ws0, y, rfl⟩ : ∃ st0 r, ws = st0 ++ [r] := ⟨ws.dropLast, ws.getLast hne, (List.dropLast_concat_getLast hne).symm⟩
      obtain ⟨us0, u, rfl, pr0, hu⟩ := Paired.unsnoc pr2
      refine ⟨fun σ H' => ∃ (v4 : Option V) (us us2 : List V) (xs' ws' : List α), σ = [some v, some (.ref f), some (.ref lf), some (.ref lw), v4] ∧ Gr T H H' ∧ H' lf = some (.lst us) ∧ Paired (R H') us xs' ∧ H' lw = some (.lst us2) ∧ Paired (R H') us2 ws' ∧ Gm.InvR nx U x xs' ws' ∧ 2 * (U.length - xs'.length) + ws'.length < 2 * (U.length - xs.length) + (ws0 ++ [y]).length, ?_, ?_⟩
      · rintro σ' H' ⟨v4, us, us2, xs', ws', e1, e2, e3, e4, e5, e6, e7, e8⟩
        exact ⟨_, e8, v4, us, us2, xs', ws', e1, e2, e3, e4, e5, e6, e7, rfl⟩
      refine ⟨f, fdL, psL, spL, oL, rfl, FL, bL, gH.fz hfL, hoL, _, rfl, .inl ⟨rfl, _, SqL.of hw1⟩, lw, us0 ++ [u], u, rfl, rfl, hw1, by simp, ?_⟩
      rw [List.dropLast_concat]
      have gH2 : Gr T H (upd H1 lw (.lst us0)) := gH.put hlw0 (.inr ⟨_, hw1⟩)
      have hu2 : R (upd H1 lw (.lst us0)) u y := EL.put hw1 hu
      have prx2 : Paired (R (upd H1 lw (.lst us0))) us xs := Paired.mapP pr fun v x h => EL.put hw1 h
      have prw2 : Paired (R (upd H1 lw (.lst us0))) us0 ws0 := Paired.mapP pr0 fun v x h => EL.put hw1 h
      have hf2 : (upd H1 lw (.lst us0)) lf = some (.lst us) := by rw [upd_ne nfw]; exact hf1
      generalize hH2 : upd H1 lw (.lst us0) = H2 at gH2 hu2 prx2 prw2 hf2
      have hw2 : H2 lw = some (.lst us0) := by rw [← hH2, upd_same]
      have invF := inv.pop
      refine ⟨gH2.fz hfL, cbL H2 gH2 u y hu2 (invF.ok y invF.yx).1 _ fun H3 l ul g3 hl hl3 prn => ?_⟩
      have nlf : l ≠ lf := fun z => by rw [z, hf2] at hl; cases hl
      have nlw : l ≠ lw := fun z => by rw [z, hw2] at hl; cases hl
      refine ⟨l, rfl, ⟨_, SqL.of hl3⟩, ?_⟩
      refine for_list (K := K) (a := l) (xs := ul) (fun i σ H4 => ∃ (v4 : Option V) (us us2 : List V) (xs' ws' : List α), σ = [some v, some (.ref f), some (.ref lf), some (.ref lw), v4] ∧ Gr T H H4 ∧ H4 l = some (.lst ul) ∧ Paired (R H4) ul (nx y) ∧ H4 lf = some (.lst us) ∧ Paired (R H4) us xs' ∧ H4 lw = some (.lst us2) ∧ Paired (R H4) us2 ws' ∧ Gm.InvF nx U x y i xs' ws' ∧ 2 * (U.length - xs'.length) + ws'.length < 2 * (U.length - xs.length) + (ws0 ++ [y]).length)
        ⟨v4, us, us0, xs, ws0, rfl, gH2.trans g3, hl3, prn, g3.lst hf2, Paired.mapP prx2 fun v x h => EL.gr g3 h, g3.lst hw2, Paired.mapP prw2 fun v x h => EL.gr g3 h, invF, by rw [List.length_append]; show _ < _ + (ws0.length + 1); omega⟩
        (fun i σ H' _ h => by
          obtain ⟨_, _, _, _, _, _, _, h, _⟩ := h
          exact SqL.of h) ?_ ?_
      · rintro i u' σ H4 hi ⟨v4, us, us2, xs', ws', rfl, g4, hl4, prn4, hf4, prx4, hw4, prw4, inv4, lt4⟩
        obtain ⟨z, hz, ru⟩ := Paired.at_ prn4 hi
        refine ⟨_, rfl, _, rfl, hN H4 u' z lf us xs' _ ru hf4 prx4 ⟨_, rfl, ?_⟩⟩
        refine ite2 (fun hm => ?_) (fun hm => ?_)
        · have hm : z ∉ xs' := by simpa using hm
          have inv5 := inv4.add hU hz hm
          have lx := xl inv5.nd fun y hy => (inv5.ok y hy).1
          have lw' := xl inv5.nw fun y hy => (inv5.ok y (inv5.sub y hy)).1
          rw [List.length_append] at lx lw'
          have e1 : [z].length = 1 := rfl
          have lu : us.length = xs'.length := Paired.length prx4
          have lu2 : us2.length = ws'.length := Paired.length prw4
          refine ⟨_, rfl, .inl ⟨rfl, _, SqL.of hf4⟩, _, rfl, lf, _, _, rfl, rfl, hf4, line1000 (by omega), ?_⟩
          have hw5 : (upd H4 lf (.lst (us ++ [u']))) lw = some (.lst us2) := by rw [upd_ne (Ne.symm nfw)]; exact hw4
          refine ⟨_, rfl, .inl ⟨rfl, _, SqL.of hw5⟩, _, rfl, lw, _, _, rfl, rfl, hw5, line1000 (by omega), ?_⟩
          have up : ∀ v x, R H4 v x → R (upd (upd H4 lf (.lst (us ++ [u']))) lw (.lst (us2 ++ [u']))) v x := fun v x h => EL.put hw5 (EL.put hf4 h)
          refine ⟨_, us ++ [u'], us2 ++ [u'], xs' ++ [z], ws' ++ [z], rfl, (g4.put hlf (.inr ⟨_, hf4⟩)).put hlw0 (.inr ⟨_, hw5⟩), by rw [upd_ne nlw, upd_ne nlf]; exact hl4, Paired.mapP prn4 up, by rw [upd_ne nfw, upd_same],
            Paired.snoc' (Paired.mapP prx4 up) (up _ _ ru), upd_same, Paired.snoc' (Paired.mapP prw4 up) (up _ _ ru), inv5, ?_⟩
          rw [List.length_append, List.length_append]
          omega
        · have hm : z ∈ xs' := by simpa using hm
          exact ⟨_, us, us2, xs', ws', rfl, g4, hl4, prn4, hf4, prx4, hw4, prw4, inv4.skip hz hm, lt4⟩
      · rintro σ H4 ⟨v4, us, us2, xs', ws', rfl, g4, hl4, prn4, hf4, prx4, hw4, prw4, inv4, lt4⟩
        rw [Paired.length prn4] at inv4
        exact ⟨v4, us, us2, xs', ws', rfl, g4, hf4, prx4, hw4, prw4, inv4.fin, lt4⟩
    · have hws : ws = [] := by
        cases pr2 with
        | nil => rfl
        | cons _ _ => exact absurd rfl e
      subst hws
      have hl := xl inv.nd fun y hy => (inv.ok y hy).1
      exact ⟨_, rfl, q H1 lf us xs gH hlf hf1 pr inv.nd inv.done (by omega)⟩
end
end Gp

/-! lambdas handed to reached -/
namespace Gp
open PySem PyProof.Rows L2
open PySem.Spec hiding Row
open Gg (Graph Row)
section
variable {α : Type} {P : Program} {w : World} {K : PySem.W.Frag} {mg : Str → Option Value} {base : Heap} {k : Nat} {f c : Addr} {name qual : Str} {params : Arguments} {body : Expr} {scope : Scope} {cl : List (Str × Addr)} {pm ct : Value} {ps fv : List Str} {t : TE} {ws : List V} {T : List Tab} {H : Hp}
theorem cb1_lam {R : Hp → V → α → Prop} {U : List α} {nx : α → List α} (EL : ElOk T R) (S : LamScope ps fv scope) (C : CloOk cl fv) (hp : ps.length = 1) (bb : LamBinds params ps) (L : LamAt H f (PySem.W.kla_obj name qual params body scope cl pm c ct) (.ref c) qual cl fv ws)
    (hb : ∀ (A : Around) (outer : List Env) (s : Shared) (H : Hp), Room k (A.deeper (PySem.W.envX qual scope s.heap.objs.size f (.ref c) cl)) → PE (cxLam P w K mg base (ps ++ fv) qual scope f (.ref c) cl A outer s H) body t)
    (ht : ∀ H1, Gr T (hid (cl.map (·.2)) H) H1 → ∀ (v : V) (x : α), R H1 v x → x ∈ U → ∀ Q : VK, (∀ H2 l us, Gr T H1 H2 → H1 l = none → H2 l = some (.lst us) → Paired (R H2) us (nx x) → Q (.ref l) H2) → t (([v] ++ ws).map some) H1 Q) :
    Cb1 P w K mg base T (k + 1) H f R U nx := by
  refine ⟨_, ps, _, _, fn_lamT (name := name) (params := params) (pm := pm) (ct := ct) (ws := ws) S C hb, fun s us hl => .of_eq (bb _ _ _ _ _ _ _ _ us hl), L.obj, ⟨_, _, _, _, rfl⟩, fun H1 g v x hv hx Q hQ => ⟨hp.symm, L.gr g, ?_⟩⟩
  have c0 := L.cells C
  have c1 := c0.gr g
  refine ht _ (g.hide c0) v x (EL.hid c1 hv) hx _ fun H2 l us g2 hl hl2 pr hn => ?_
  have nl : l ∉ cl.map (·.2) := fun m => by
    have := hn l m
    rw [hl2] at this
    cases this
  rw [hid_out nl] at hl
  exact hQ _ l us (g2.back c1 hn) hl (by rw [bck_out nl]; exact hl2) (Paired.mapP pr fun v x h => EL.bck hn h)
end
/-- a tuple of numbers, not among what was there at the start -/
def TpN (H : Hp) (v : V) (r : Row) : Prop := ∃ q, v = .ref q ∧ H q = some (.tup (gv r))
theorem el_tup {T : List Tab} : ElOk T TpN where
  gr := fun g ⟨q, e, h⟩ => ⟨q, e, g.tup h⟩
  put := fun hl ⟨q, e, h⟩ => ⟨q, e, by rw [upd_ne (ne_of h hl (by intro z; cases z))]; exact h⟩
  hid := fun c ⟨q, e, h⟩ => ⟨q, e, hid_keep c h fun ob z => by cases z⟩
  bck := fun hn ⟨q, e, h⟩ => ⟨q, e, by
    rw [bck_out (fun m => by rw [hn q m] at h; cases h)]
    exact h⟩
/-- a number -/
def NvN (_ : Hp) (v : V) (n : Nat) : Prop := v = nv n
theorem el_num {T : List Tab} : ElOk T NvN where
  gr := fun _ h => h
  put := fun _ h => h
  hid := fun _ h => h
  bck := fun _ h => h
theorem nums_gv {H : Hp} {us : List V} {xs : List Nat} (h : Paired (NvN H) us xs) : us = gv xs := by
  induction h with
  | nil => rfl
  | cons a _ ih =>
    have a : _ = nv _ := a
    rw [a, ih]; rfl
theorem gv_nums (H : Hp) : ∀ xs : List Nat, Paired (NvN H) (gv xs) xs
  | [] => .nil
  | x :: xs => .cons rfl (gv_nums H xs)
end Gp

namespace Gp
open PySem PyProof.Rows L2
open PySem.Spec hiding Row
open Gg (Graph Row joined isGraph nodes)
section
variable {P : Program} {w : World} {K : PySem.W.Frag} {mg : Str → Option Value} {base : Heap} {T : List Tab}
theorem ok_reachedN {f : Addr} {fd : FuncData} {kk : Nat} (D : Df K mg "reached" s_reached ["start", "following"] f fd) (B : Bn mg) : FnOk P w K mg base CX0 (kk + 1) f fd ["start", "following"] (spReached P w K mg base T kk NvN) :=
  ok_reached el_num (rIn K true) (fun X e hu => e ▸ op_notIn_seq) (fun H v x p us xs Q rv hp pr h => by
    have rv : v = nv x := rv
    subst rv
    have := nums_gv pr
    subst this
    refine ⟨p, gv xs, rfl, .inl (SqL.of hp), rfl, flat_gv xs, ?_⟩
    show Q (.bl (!inV (nv x) (gv xs))) H
    rw [in_gv]
    exact h) D B
end
end Gp

/-! a or b, where a is a list -/
namespace L2
open PySem PySem.Spec PyProof.Rows
section
variable {X : Cx} {a b : Expr} {rest : List Expr} {pos : Pos} {ta tb : TE}
def tOrL (K : PySem.W.Frag) (ta tb : TE) : TE := fun σ H Q => ta σ H fun x H1 => ∃ c, TruV K x H1 c ∧ if c = true then Q x H1 else tb σ H1 Q
theorem pe_orL (ha : PE X a ta) (hb : PE X (.BoolOp .Or (b :: rest) pos) tb) : PE X (.BoolOp .Or (a :: b :: rest) pos) (tOrL X.K ta tb) := by
  intro pins s σ H Q I h
  refine BoolOp_or (thn (ha pins s σ H _ I h) fun v s1 ⟨x, H1, I1, r1, c, tr, q1⟩ => ?_)
  refine thn (tru_ok pins s1 σ H1 x v (fun k H' => k = c ∧ H' = H1) I1 r1 ⟨c, tr, rfl, rfl⟩) fun k s2 ⟨H2, I2, e1, e2⟩ => ?_
  subst e1 e2
  cases k with
  | false => exact hb pins s2 σ H2 Q I2 q1
  | true => exact ⟨x, H2, I2, r1, q1⟩
end
end L2

namespace Gp
open PySem PyProof.Rows L2
open PySem.Spec hiding Row
open Gg (Graph Row joined isGraph nodes)
section
variable {P : Program} {w : World} {K : PySem.W.Frag} {mg : Str → Option Value} {base : Heap} {T : List Tab}
def spWayPast (T : List Tab) (K : PySem.W.Frag) : Sp := fun vs H Q _ => ∃ (a : Addr) (g : Graph) (s e x : Nat), vs = [.ref a, nv s, nv e, nv x] ∧ SqL K H a (gv g) ∧ Gm.Ok g ∧ s < g.length ∧ TB T H ∧ ∀ H', Gr T H H' → Q (.bl (Gg.past g x s e)) H'
theorem sc_way_past : FnScope ["graph", "start", "end", "third", "free", "node"] ["graph", "start", "end", "third"] (defScope s_way_past) := ⟨rfl, rfl, rfl, by decide +kernel, rfl, by decide +kernel, by decide +kernel⟩
theorem lam_way_past : LamScope ["node"] ["free", "graph"] (lamScope s_way_past) := ⟨rfl, rfl, rfl, by decide +kernel, by decide +kernel, by decide +kernel, by decide +kernel, by decide +kernel⟩
theorem bind_way_past : LamBinds (lamArgs s_way_past) ["node"] := fun _ _ _ _ _ _ _ _ us hl => match us, hl with | [_], _ => rfl
theorem ok_way_past {f fR fN fJ : Addr} {fd fdR fdN fdJ : FuncData} (ct : Ct T mg base) (D : Dl T K mg base "way_past" s_way_past ["graph", "start", "end", "third"] f fd) (DR : Df K mg "reached" s_reached ["start", "following"] fR fdR) (DN : Df K mg "neighbours" s_neighbours ["graph", "node", "among"] fN fdN) (DJ : Df K mg "joined" s_joined ["graph", "node", "other"] fJ fdJ) (B : Bn mg) :
    FnOk P w K mg base CX0 5 f fd ["graph", "start", "end", "third"] (spWayPast T K) := by
  have GJ : FnOk P w K mg base CX0 4 fJ fdJ ["graph", "node", "other"] (spJoined K) := (ok_joined DJ).mono (by decide)
  have GN : FnOk P w K mg base CX0 2 fN fdN ["graph", "node", "among"] (spNeigh K) := ok_neighbours DN DJ
  have GR : FnOk P w K mg base CX0 4 fR fdR ["start", "following"] (spReached P w K mg base T 3 NvN) := ok_reachedN DR B
  obtain ⟨c, Pt, hcode, hcd, hmem⟩ := D.cp
  refine D.d.F.okC hcode sc_way_past (fun vs H Q E h => ?_) (fun A outer s H vs Q E hr h => ?_)
  · obtain ⟨a, g, u, v, x, rfl, _⟩ := h
    rfl
  · obtain ⟨a, g, u, v, x, rfl, hS, o, hu, tb, q⟩ := h
    have hg8 := o.le
    refine ⟨_, pss_cons (ps_asg (pe_lc rfl sc_way_past.nd (pi_range1 (by rfl) B.range (pa_cons (pe_callB call_len_seq (by rfl) B.len PySem.boot_len (pa_cons (pv 0) pa_nil)) pa_nil)) (own := [("node", 5)]) (blkOk_by (by rfl))
        (fun _ _ _ _ _ => pg_name (i := 5) sc_way_past.nd rfl (Or.inl rfl))
        (fun _ _ _ _ _ => pts_one (pw_and (pt_cmpR op_ne (pv 5) (pv 3) (nomark _)) (pw_and1 (pt_not (pt_val (pe_call GJ hr (by rfl) DJ.m DJ.F.kp DJ.b .nil pass0 (pa_cons (pv 0) (pa_cons (pv 5) (pa_cons (pv 3) pa_nil)))))))).pt)
        (fun _ _ _ _ _ => pv 5)) (pg_name (i := 4) sc_way_past.nd rfl (Or.inr rfl)))
      (pss_one (ps_ret (pe_and (pe_cmpR op_in_seq (pv 1) (pv 4) (by rfl)) (pe_one (pe_cmpR op_in_seq (pv 2) (pe_callC [("free", 4), ("graph", 0)] GR hr (by rfl) DR.m DR.F.kp DR.b (fun n hn => by
          rcases List.mem_cons.mp hn with rfl | hn
          · exact ⟨rfl, rfl, rfl⟩
          · rw [List.mem_singleton.mp hn]; exact ⟨rfl, rfl, rfl⟩)
        (pa_cons (pv 1) (pa_cons (pe_lam hmem ct.one rfl hcd ct.bm rfl rfl rfl (fun y hy e => by
          rcases List.mem_cons.mp (lam_way_past.only y hy e) with h | h
          · exact ⟨_, by rw [h]; rfl⟩
          · exact ⟨_, by rw [List.mem_singleton.mp h]; rfl⟩)) pa_nil))) (by rfl)))))), ?_⟩
    refine ⟨_, rfl, a, _, rfl, .inl hS, ?_⟩
    rw [gv_len]
    refine ⟨_, rfl, by omega, by omega, fun Dn hDn => ?_⟩
    rw [Int.toNat_natCast]
    have nee : ∀ (m n : Nat), (!decide (V.int ((m : Nat) : Int) = V.int ((n : Nat) : Int))) = (m != n) := fun m n => by
      by_cases z : m = n
      · subst z; simp
      · have z2 : ¬ V.int ((m : Nat) : Int) = V.int ((n : Nat) : Int) := fun h => by injection h with h; omega
        rw [decide_eq_false z2]
        exact (bne_iff_ne.mpr z).symm
    refine lc_pickR (n := g.length) (fun y => y != x && !joined g y x) nv hDn (by omega) ?_ ?_
    · intro y hy H1 s1 k1 k0 y1 y0
      refine ⟨rfl, _, rfl, _, rfl, rfl, _, rfl, ?_⟩
      rw [show (!decide (V.int ((y : Nat) : Int) = nv x)) = (y != x) from nee y x]
      refine ite2 (fun hc => ?_) (fun hc => ?_)
      · refine ⟨_, rfl, _, rfl, _, rfl, a, g, y, x, rfl, s1.seq hS, hy, _, rfl, ?_⟩
        cases e : joined g y x with
        | false => exact ⟨_, rfl, y1 (by rw [hc, e]; rfl) H1 (Same.refl _)⟩
        | true => exact y0 (by rw [hc, e]; rfl) H1 (Same.refl _)
      · exact iteF (y0 (by rw [Bool.eq_false_iff.mpr hc]; rfl) H1 (Same.refl _))
    intro H1 s1 h1
    generalize hfr : (List.range g.length).filter (fun y => y != x && !joined g y x) = fr at h1
    have h1 : H1 Dn = some (.lst (gv fr)) := h1
    have hfl : fr.length ≤ 8 := by
      rw [← hfr]
      have := List.length_filter_le (fun y => y != x && !joined g y x) (List.range g.length)
      rw [List.length_range] at this
      omega
    have hfm : ∀ y ∈ fr, y < g.length := fun y hy => by
      rw [← hfr] at hy
      exact List.mem_range.mp (List.mem_filter.mp hy).1
    have pr := Gm.past_rt (x := x) (b := v) hu fr hfr.symm
    refine ⟨_, rfl, _, rfl, Dn, _, rfl, .inl (SqL.of h1), rfl, flat_gv _, _, rfl, ?_⟩
    show if inV (nv u) (gv fr) = true then _ else _
    rw [in_gv]
    refine ite2 (fun hc => ?_) (fun hc => ?_)
    · have hc : u ∈ fr := by simpa using hc
      refine ⟨_, rfl, _, rfl, tb.same s1, fun H2 fL cL ctv g2 hf hf2 hcd2 => ⟨fun n hn => by
          rcases List.mem_cons.mp hn with rfl | hn
          · exact ⟨_, rfl⟩
          · rw [List.mem_singleton.mp hn]; exact ⟨_, rfl⟩, fun cs hcs hcn => ?_⟩⟩
      have hf2 : H2 fL = some (fz (lamObj s_way_past "way_past" mg [("graph", s.heap.objs.size + 1), ("free", s.heap.objs.size + 3)] cL ctv)) := hf2
      have ne31 : s.heap.objs.size + 3 ≠ s.heap.objs.size + 1 := fun z => absurd (Nat.add_left_cancel z) (by decide)
      obtain ⟨L, ecs, hcell⟩ := lam_two hcs (n := s.heap.objs.size + 3) (m := s.heap.objs.size + 1) rfl rfl ne31 (by decide) (v := .ref Dn) (z := .ref a) rfl rfl hf2 hcd2 hcn
      have C : CloOk [(("graph" : Str), s.heap.objs.size + 1), (("free" : Str), s.heap.objs.size + 3)] [("free" : Str), "graph"] := clo_two (by decide) ne31.symm _ (by simp) (by simp)
      have c0 := L.cells C
      have gS : SqL K H2 a (gv g) := g2.seq (s1.seq hS)
      have gB : H2 Dn = some (.lst (gv fr)) := g2.lst h1
      refine ⟨nv u, fL, u, fr, fun y => fr.filter fun t => joined g y t, rfl, rfl, hc, by omega, fun y _ z hz => (List.mem_filter.mp hz).1, ?_, fun H7 l7 us7 xs g7 hl7 h7 pr7 nd7 mem7 len7 => ?_⟩
      · refine cb1_lam el_num lam_way_past C rfl bind_way_past L
          (fun A outer s H hr => pe_call GN hr (by rfl) DN.m DN.F.kp DN.b .nil pass0 (pa_cons (pv 2) (pa_cons (pv 0) (pa_cons (pv 1) pa_nil)))) fun H8 g8 v' y hv hy Q' hQ' => ?_
        have hv : v' = nv y := hv
        subst hv
        refine ⟨_, rfl, _, rfl, _, rfl, a, Dn, g, y, fr, rfl, g8.seq (hid_seq c0 ((same_shw hcn).seq gS)), g8.seq (hid_seq c0 ((same_shw hcn).seq (SqL.of gB))), hfm y hy, by omega, fun H9 n s9 hn h9 => hQ' H9 n _ (.of s9) hn h9 (gv_nums _ _)⟩
      · obtain ⟨n1, n2⟩ := new_shown hl7 h7
        have gC : Gr T H2 (hid (cs.map (·.1)) H7) := Gr.shown hcn hcell g7
        have eu := nums_gv pr7
        subst eu
        refine ⟨l7, gv xs, rfl, .inl (SqL.of n2), rfl, flat_gv _, ?_⟩
        show Q (.bl (inV (nv v) (gv xs))) _
        rw [in_gv]
        have e : xs.contains v = Gg.past g x u v := by
          rw [Bool.eq_iff_iff, pr, ← mem7 v]
          simp [hc]
        rw [e]
        exact q _ ((Gr.of s1).trans (g2.trans gC))
    · have e : Gg.past g x u v = false := by
        rw [Bool.eq_false_iff]
        intro z
        exact hc (by simpa using (pr.mp z).1)
      have := q H1 (.of s1)
      rw [e] at this
      exact this
end
end Gp

namespace Gp
open PySem PyProof.Rows L2
open PySem.Spec hiding Row
open Gg (Graph Row joined isGraph nodes)
section
variable {P : Program} {w : World} {K : PySem.W.Frag} {mg : Str → Option Value} {base : Heap} {T : List Tab}
def spBegins (T : List Tab) (K : PySem.W.Frag) : Sp := fun vs H Q _ => ∃ (a b : Addr) (g : Graph) (r : Row) (v : Nat), vs = [.ref a, .ref b, nv v] ∧ SqL K H a (gv g) ∧ Gm.Ok g ∧ SqL K H b (gv r) ∧ r.length ≤ 8 ∧ (∀ u ∈ r, u < g.length) ∧ v < g.length ∧ TB T H ∧ ∀ H', Gr T H H' → Q (.bl (Gm.threeP g r v)) H'
theorem sc_begins_three : FnScope ["graph", "row", "node"] ["graph", "row", "node"] (defScope s_begins_three) := ⟨rfl, rfl, rfl, by decide +kernel, rfl, by decide +kernel, by decide +kernel⟩
theorem ok_begins_three {f fW fR fN fJ : Addr} {fd fdW fdR fdN fdJ : FuncData} (ct : Ct T mg base) (D : Df K mg "begins_three" s_begins_three ["graph", "row", "node"] f fd) (DW : Dl T K mg base "way_past" s_way_past ["graph", "start", "end", "third"] fW fdW) (DR : Df K mg "reached" s_reached ["start", "following"] fR fdR) (DN : Df K mg "neighbours" s_neighbours ["graph", "node", "among"] fN fdN) (DJ : Df K mg "joined" s_joined ["graph", "node", "other"] fJ fdJ) (B : Bn mg) :
    FnOk P w K mg base CX0 6 f fd ["graph", "row", "node"] (spBegins T K) := by
  have GN : FnOk P w K mg base CX0 5 fN fdN ["graph", "node", "among"] (spNeigh K) := (ok_neighbours DN DJ).mono (by decide)
  have GW : FnOk P w K mg base CX0 5 fW fdW ["graph", "start", "end", "third"] (spWayPast T K) := ok_way_past ct DW DR DN DJ B
  refine D.F.ok sc_begins_three (fun vs H Q E h => ?_) (fun cdv A outer s H vs Q E hr h => ?_)
  · obtain ⟨a, b, g, r, v, rfl, _⟩ := h
    rfl
  · obtain ⟨a, b, g, r, v, rfl, hS, o, hb, hrl, hrm, hv, tb, q⟩ := h
    refine ⟨_, pss_cons (ps_if (pw_or (pt_cmpR op_in_seq (pv 2) (pv 1) (by rfl)) (pw_or1 (pt_truth (pe_call GN hr (by rfl) DN.m DN.F.kp DN.b .nil pass0 (pa_cons (pv 0) (pa_cons (pv 2) (pa_cons (pv 1) pa_nil)))) (fun _ => rfl)))).pt (pss_one (ps_ret pe_bl)) pss_nil)
      (pss_cons (ps_if (pt_cmpR op_lt (pe_callB call_len_seq (by rfl) B.len PySem.boot_len (pa_cons (pv 1) pa_nil)) pe_int (nomark _)) (pss_one (ps_ret pe_bl)) pss_nil)
      (pss_cons (ps_if (pt_not (pt_val (pe_call GW hr (by rfl) DW.d.m DW.d.F.kp DW.d.b .nil pass0 (pa_cons (pv 0) (pa_cons (pe_ix (r := rIxL K) ix_list (pv 1) pe_int (fun _ _ => rfl)) (pa_cons (pe_ix (r := rIxL K) ix_list (pv 1) pe_int (fun _ _ => rfl)) (pa_cons (pv 2) pa_nil))))))) (pss_one (ps_ret pe_bl)) pss_nil)
      (pss_one (ps_ret (pe_and (pe_call GW hr (by rfl) DW.d.m DW.d.F.kp DW.d.b .nil pass0 (pa_cons (pv 0) (pa_cons (pe_ix (r := rIxL K) ix_list (pv 1) pe_int (fun _ _ => rfl)) (pa_cons (pv 2) (pa_cons (pe_ix (r := rIxL K) ix_list (pv 1) pe_int (fun _ _ => rfl)) pa_nil)))))
        (pe_one (pe_call GW hr (by rfl) DW.d.m DW.d.F.kp DW.d.b .nil pass0 (pa_cons (pv 0) (pa_cons (pe_ix (r := rIxL K) ix_list (pv 1) pe_int (fun _ _ => rfl)) (pa_cons (pv 2) (pa_cons (pe_ix (r := rIxL K) ix_list (pv 1) pe_int (fun _ _ => rfl)) pa_nil))))))))))), ?_⟩
    have fin : ∀ (H' : Hp) (k : Bool), Gr T H H' → Gm.threeP g r v = k → Q (.bl k) H' := fun H' k gg e => e ▸ q H' gg
    refine ⟨_, rfl, _, rfl, b, _, rfl, .inl hb, rfl, flat_gv r, _, rfl, ?_⟩
    show if inV (nv v) (gv r) = true then _ else _
    rw [in_gv]
    refine ite2 (fun hc => ?_) (fun hc => ?_)
    · refine iteT (fin H false (.refl _) ?_)
      unfold Gm.threeP; rw [hc]; rfl
    have hc : r.contains v = false := by simpa using hc
    refine ⟨_, rfl, _, rfl, _, rfl, a, b, g, v, r, rfl, hS, hb, hv, by omega, fun H1 n s1 hn h1 => ⟨_, .inl ⟨_, SqL.of h1, rfl⟩, ?_⟩⟩
    have et : (!(gv (r.filter fun u => joined g v u)).isEmpty) = !(r.filter fun u => joined g v u).isEmpty := by cases r.filter fun u => joined g v u <;> rfl
    rw [et]
    refine ite2 (fun hd => ?_) (fun hd => ?_)
    · refine fin H1 false (.of s1) ?_
      have hd : (r.filter fun u => joined g v u).isEmpty = false := by simpa using hd
      unfold Gm.threeP; rw [hc, hd]; rfl
    have hd : (r.filter fun u => joined g v u).isEmpty = true := by simpa using hd
    have et3 : Gm.threeP g r v = (decide (r.length < 2) || (Gg.past g v (Gg.node r 0) (Gg.node r 1) && (Gg.past g (Gg.node r 1) (Gg.node r 0) v && Gg.past g (Gg.node r 0) (Gg.node r 1) v))) := by
      unfold Gm.threeP; rw [hc, hd]; rfl
    refine ⟨_, rfl, b, _, rfl, .inl (s1.seq hb), _, _, rfl, rfl, _, rfl, ?_⟩
    rw [gv_len]
    refine ite2 (fun he => ?_) (fun he => ?_)
    · have he := of_decide_eq_true he
      refine fin H1 true (.of s1) ?_
      rw [et3, decide_eq_true (by omega)]; rfl
    have h2 : 2 ≤ r.length := by
      have := of_decide_eq_false (Bool.eq_false_iff.mpr he)
      omega
    have et4 : Gm.threeP g r v = (Gg.past g v (Gg.node r 0) (Gg.node r 1) && (Gg.past g (Gg.node r 1) (Gg.node r 0) v && Gg.past g (Gg.node r 0) (Gg.node r 1) v)) := by
      rw [et3, decide_eq_false (by omega)]; rfl
    have m0 : Gg.node r 0 < g.length := hrm _ (by rw [Gm.node_at (by omega)]; exact List.getElem_mem _)
    have m1 : Gg.node r 1 < g.length := hrm _ (by rw [Gm.node_at (by omega)]; exact List.getElem_mem _)
    have x0 : atI (gv r) 0 = some (nv (Gg.node r 0)) := gv_at (i := 0) (by omega)
    have x1 : atI (gv r) 1 = some (nv (Gg.node r 1)) := gv_at (i := 1) (by omega)
    refine ⟨_, rfl, _, rfl, b, _, 0, _, rfl, rfl, s1.seq hb, x0, _, rfl, b, _, 1, _, rfl, rfl, s1.seq hb, x1, _, rfl, a, g, Gg.node r 0, Gg.node r 1, v, rfl, s1.seq hS, o, m0, tb.same s1, fun H2 g2 => ⟨_, rfl, ite2 (fun hw => ?_) (fun hw => ?_)⟩⟩
    · have hw : Gg.past g v (Gg.node r 0) (Gg.node r 1) = false := by simpa using hw
      refine fin H2 false ((Gr.of s1).trans g2) ?_
      rw [et4, hw]; rfl
    have hw : Gg.past g v (Gg.node r 0) (Gg.node r 1) = true := by simpa using hw
    have gH2 : Gr T H H2 := (Gr.of s1).trans g2
    refine ⟨_, rfl, _, rfl, b, _, 0, _, rfl, rfl, gH2.seq hb, x0, _, rfl, _, rfl, b, _, 1, _, rfl, rfl, gH2.seq hb, x1, a, g, Gg.node r 0, v, Gg.node r 1, rfl, gH2.seq hS, o, m0, gH2.tb tb, fun H3 g3 => ⟨_, rfl, ite2 (fun hx => ?_) (fun hx => ?_)⟩⟩
    · have gH3 := gH2.trans g3
      refine ⟨_, rfl, _, rfl, b, _, 1, _, rfl, rfl, gH3.seq hb, x1, _, rfl, _, rfl, b, _, 0, _, rfl, rfl, gH3.seq hb, x0, a, g, Gg.node r 1, v, Gg.node r 0, rfl, gH3.seq hS, o, m1, gH3.tb tb, fun H4 g4 => fin H4 _ (gH3.trans g4) ?_⟩
      rw [et4, hw, hx]; rfl
    · refine fin H3 false (gH2.trans g3) ?_
      rw [et4, hw, Bool.eq_false_iff.mpr hx]; rfl
theorem tb_hid {H : Hp} {cs : List Addr} (c : Cl H cs) (h : TB T H) : TB T (hid cs H) := fun t m => (h t m).mono' fun b o hb ho => by
  rw [hid_out]
  · exact hb
  · intro hm
    obtain ⟨ob, v, e1, e2⟩ := c b hm
    rw [hb] at e1
    rcases ho with ⟨ps, z⟩ | ⟨oc, vs, z1, z2⟩
    · rw [z] at e1; cases e1
    · rw [z1] at e1
      cases e1
      rw [e2] at z2
      cases z2
def spThree (T : List Tab) (K : PySem.W.Frag) : Sp := fun vs H Q _ => ∃ (a : Addr) (g : Graph), vs = [.ref a] ∧ SqL K H a (gv g) ∧ Gm.Ok g ∧ TB T H ∧ ∀ (H' : Hp) (l : Addr), Gr T H H' → H l = none → H' l = some (.lst (gv ((Gg.reaching g).getD []))) → Q (.ref l) H'
theorem sc_first_three : FnScope ["graph"] ["graph"] (defScope s_first_three) := ⟨rfl, rfl, rfl, by decide +kernel, rfl, by decide +kernel, by decide +kernel⟩
theorem lam_first_three : LamScope ["row", "node"] ["graph"] (lamScope s_first_three) := ⟨rfl, rfl, rfl, by decide +kernel, by decide +kernel, by decide +kernel, by decide +kernel, by decide +kernel⟩
theorem bind_first_three : LamBinds (lamArgs s_first_three) ["row", "node"] := fun _ _ _ _ _ _ _ _ us hl => match us, hl with | [_, _], _ => rfl
theorem ok_first_three {f fQ fY fW fR fN fJ : Addr} {fd fdQ fdY fdW fdR fdN fdJ : FuncData} (ct : Ct T mg base) (D : Dl T K mg base "first_three" s_first_three ["graph"] f fd) (DQ : Df K mg "first_row" s_first_row ["length", "choices", "fits"] fQ fdQ) (DY : Df K mg "begins_three" s_begins_three ["graph", "row", "node"] fY fdY) (DW : Dl T K mg base "way_past" s_way_past ["graph", "start", "end", "third"] fW fdW) (DR : Df K mg "reached" s_reached ["start", "following"] fR fdR) (DN : Df K mg "neighbours" s_neighbours ["graph", "node", "among"] fN fdN) (DJ : Df K mg "joined" s_joined ["graph", "node", "other"] fJ fdJ) (B : Bn mg) :
    FnOk P w K mg base CX0 9 f fd ["graph"] (spThree T K) := by
  have GY : FnOk P w K mg base CX0 6 fY fdY ["graph", "row", "node"] (spBegins T K) := ok_begins_three ct DY DW DR DN DJ B
  have GQ : FnOk P w K mg base CX0 8 fQ fdQ ["length", "choices", "fits"] (spFirstRow P w K mg base T 7) := ok_first_row DQ B
  obtain ⟨c, Pt, hcode, hcd, hmem⟩ := D.cp
  refine D.d.F.okC hcode sc_first_three (fun vs H Q E h => ?_) (fun A outer s H vs Q E hr h => ?_)
  · obtain ⟨a, g, rfl, _⟩ := h
    rfl
  · obtain ⟨a, g, rfl, hS, o, tb, q⟩ := h
    have h8 := o.le
    refine ⟨_, pss_one (ps_ret (pe_callC [("graph", 0)] GQ hr (by rfl) DQ.m DQ.F.kp DQ.b (fun n hn => by rw [List.mem_singleton.mp hn]; exact ⟨rfl, rfl, rfl⟩)
      (pa_cons pe_int (pa_cons (pe_callTy (call_list_rng rfl) (by rfl) B.list my_boot_list (pa_cons (pe_callTy call_rng (by rfl) B.range boot_range (pa_cons (pe_callB call_len_seq (by rfl) B.len PySem.boot_len (pa_cons (pv 0) pa_nil)) pa_nil)) pa_nil))
        (pa_cons (pe_lam hmem ct.one rfl hcd ct.bm rfl rfl rfl (fun y hy e => by
          have := List.mem_singleton.mp (lam_first_three.only y hy e)
          exact ⟨_, by rw [this]; rfl⟩)) pa_nil))))), ?_⟩
    refine ⟨_, rfl, a, _, rfl, .inl hS, ?_⟩
    rw [gv_len]
    refine ⟨_, rfl, fun p1 hp1 => ⟨p1, g.length, rfl, upd_same, by omega, fun l1 hl1 => ?_⟩⟩
    have s1 : Same H (upd (upd H p1 (.rng 0 ((g.length : Nat) : Int))) l1 (.lst ((List.range g.length).map fun (i : Nat) => V.int (i : Int)))) := (same_new hp1).trans (same_new hl1)
    rw [gv_range] at s1 ⊢
    generalize hH1 : upd (upd H p1 (.rng 0 ((g.length : Nat) : Int))) l1 (.lst (gv (List.range g.length))) = H1 at s1
    have h1 : H1 l1 = some (.lst (gv (List.range g.length))) := by rw [← hH1, upd_same]
    refine ⟨tb.same s1, fun H2 fL cL ctv g2 hf hf2 hcd2 => ⟨fun n hn => by rw [List.mem_singleton.mp hn]; exact ⟨_, rfl⟩, fun cs hcs hcn => ?_⟩⟩
    have hf2 : H2 fL = some (fz (lamObj s_first_three "first_three" mg [("graph", s.heap.objs.size + 1)] cL ctv)) := hf2
    obtain ⟨L, ecs, hcell⟩ := lam_one hcs (n := s.heap.objs.size + 1) rfl (v := .ref a) rfl hf2 hcd2 hcn
    have gS : SqL K H2 a (gv g) := g2.seq (s1.seq hS)
    have tb2 : TB T H2 := g2.tb (tb.same s1)
    refine ⟨3, l1, fL, List.range g.length, Gm.threeP g, rfl, (same_shw hcn).seq (g2.seq (SqL.of h1)), by rw [List.length_range]; omega, by omega, ?_, fun H3 l g3 hl hl3 => ?_⟩
    · refine cb_lam lam_first_three (clo_one _ _) rfl bind_first_three L
        (fun A outer s H hr => pe_call GY hr (by rfl) DY.m DY.F.kp DY.b .nil pass0 (pa_cons (pv 2) (pa_cons (pv 0) (pa_cons (pv 1) pa_nil)))) fun H4 g4 b r v hb hrl hbt hv Q' hQ' => ?_
      have c0 := L.cells (clo_one _ _)
      refine ⟨_, rfl, _, rfl, _, rfl, a, b, g, r, v, rfl, g4.seq (hid_seq c0 ((same_shw hcn).seq gS)), o, SqL.of hb, by omega, fun u hu => List.mem_range.mp (hbt.mem hu), List.mem_range.mp hv, g4.tb (tb_hid c0 (tb2.same (same_shw hcn))), fun H5 g5 => hQ' H5 g5⟩
    · obtain ⟨n1, n2⟩ := new_shown hl hl3
      have ed : Gm.dfs (Gm.threeP g) (List.range g.length) 3 3 [] = Gg.reaching g := Gm.three_dfs o
      rw [ed] at n2
      exact q _ l ((Gr.of s1).trans (g2.trans (Gr.shown hcn hcell g3))) ((Gr.of s1 : Gr T H H1).free (g2.free n1)) n2
end
end Gp

namespace Gp
open PySem PyProof.Rows L2
open PySem.Spec hiding Row
open Gg (Graph Row joined isGraph nodes)
section
variable {P : Program} {w : World} {K : PySem.W.Frag} {mg : Str → Option Value} {base : Heap}
theorem and_not_nat (x c : Nat) : Builtin.bitAnd (x : Int) (Builtin.bitNot (c : Int)) = ((x - (x &&& c) : Nat) : Int) := by
  unfold Builtin.bitAnd Builtin.bitNot
  rw [decide_eq_true (Int.natCast_nonneg x), decide_eq_false (by omega)]
  have h1 : (-(-(c : Int) - 1) - 1).toNat = c := by omega
  show (x : Int) - (((x : Int).toNat &&& (-(-(c : Int) - 1) - 1).toNat : Nat) : Int) = _
  rw [h1, Int.toNat_natCast]
  have : x &&& c ≤ x := Nat.and_le_left
  omega
def spFollow (K : PySem.W.Frag) : Sp := fun vs H Q _ => ∃ (a b : Addr) (G r : List Nat) (c : Nat), vs = [.ref a, .ref b, nv c] ∧ SqL K H a (gv G) ∧ SqL K H b (gv r) ∧ G.length ≤ 1000 ∧ ∀ H', Same H H' → Q (.bl (Gm.followP G r c)) H'
theorem sc_may_follow : FnScope ["greatest", "row", "clique", "ended", "other"] ["greatest", "row", "clique"] (defScope s_may_follow) := ⟨rfl, rfl, rfl, by decide +kernel, rfl, by decide +kernel, by decide +kernel⟩
theorem ok_may_follow {f : Addr} {fd : FuncData} (D : Df K mg "may_follow" s_may_follow ["greatest", "row", "clique"] f fd) (B : Bn mg) : FnOk P w K mg base CX0 1 f fd ["greatest", "row", "clique"] (spFollow K) := by
  refine D.F.ok sc_may_follow (fun vs H Q E h => ?_) (fun cdv A outer s H vs Q E hr h => ?_)
  · obtain ⟨a, b, G, r, c, rfl, _⟩ := h
    rfl
  · obtain ⟨a, b, G, r, c, rfl, hS, hb, hG, q⟩ := h
    refine ⟨_, pss_cons (ps_if (pt_cmpR op_in_seq (pv 2) (pv 1) (by rfl)) (pss_one (ps_ret pe_bl)) pss_nil)
      (pss_cons (ps_set (i := 3) sc_may_follow.nd rfl (Or.inr rfl) (pe_ifExp (pt_truth (pv 1) (fun _ => rfl)) (pe_op op_and (pe_ix (r := rIxL K) ix_list (pv 1) (pe_un un_neg pe_int) (fun _ _ => rfl)) (pe_un un_inv (pv 2))) pe_int))
      (pss_one (ps_ret (pe_not (pe_callB (cr_any rfl) (by rfl) B.any boot_any (pa_cons (pe_lc rfl sc_may_follow.nd (pi_list (pv 0)) (own := [("other", 4)]) (blkOk_by (by rfl))
        (fun _ _ _ _ _ => pg_name (i := 4) sc_may_follow.nd rfl (Or.inl rfl))
        (fun _ _ _ _ _ => pts_one (t := tB (tOp (rIn K true) (tVar 4) (tVar 1))) (pt_cmpR (r := rIn K true) op_notIn_seq (pv 4) (pv 1) (by rfl)))
        (fun _ _ _ _ _ => pe_cmpR op_ne (pe_op op_and (pv 3) (pv 4)) pe_int (nomark _))) pa_nil)))))), ?_⟩
    have fin : ∀ (H' : Hp) (k : Bool), Same H H' → Gm.followP G r c = k → Q (.bl k) H' := fun H' k gg e => e ▸ q H' gg
    refine ⟨_, rfl, _, rfl, b, _, rfl, .inl hb, rfl, flat_gv r, _, rfl, ?_⟩
    show if inV (nv c) (gv r) = true then _ else _
    rw [in_gv]
    refine ite2 (fun hc => ?_) (fun hc => ?_)
    · refine fin H false (Same.refl _) ?_
      unfold Gm.followP; rw [hc]; rfl
    have hc : r.contains c = false := by simpa using hc
    have dz : ∀ n : Nat, (!decide (V.int ((n : Nat) : Int) = V.int 0)) = !decide (n = 0) := fun n => by
      by_cases z : n = 0
      · subst z; rfl
      · have z2 : ¬ V.int ((n : Nat) : Int) = V.int 0 := fun h => by injection h with h; omega
        rw [decide_eq_false z2, decide_eq_false z]
    refine ⟨_, rfl, _, .inl ⟨_, hb, rfl⟩, ite2 (fun hne => ?_) (fun hne => ?_)⟩
    · have hr0 : r ≠ [] := fun z => by rw [z] at hne; simp [gv] at hne
      obtain ⟨r0, l, er⟩ : ∃ r0 l, r = r0 ++ [l] := ⟨r.dropLast, r.getLast hr0, (List.dropLast_concat_getLast hr0).symm⟩
      have en : Gm.endN r c = l - (l &&& c) := by
        unfold Gm.endN
        rw [er, if_neg (by simp), List.getLastD_eq_getLast?, List.getLast?_append]
        rfl
      have ea : atI (gv r) (-1) = some (nv l) := by rw [er, gv_snoc]; exact atI_last _ _
      have hv : ∀ o : Nat, (!decide (V.int (Builtin.bitAnd (Builtin.bitAnd ((l : Nat) : Int) (Builtin.bitNot ((c : Nat) : Int))) ((o : Nat) : Int)) = V.int 0)) = !decide (Gm.endN r c &&& o = 0) := fun o => by
        rw [and_not_nat, and_nat, dz, en]
      refine ⟨_, rfl, _, rfl, b, _, _, _, rfl, rfl, hb, ea, _, rfl, _, rfl, _, _, rfl, rfl, ?_⟩
      refine ⟨_, rfl, a, rfl, ⟨_, hS⟩, fun Dn hDn => ?_⟩
      refine lc_pick (r := G) (φ := nv) (fun o => !r.contains o) (fun o => V.bl (!decide (Gm.endN r c &&& o = 0))) hS hDn (by omega) ?_ ?_
      · intro o ho H1 s1 k1 k0 y1 y0
        refine ⟨rfl, _, rfl, _, rfl, b, _, rfl, .inl (s1.seq hb), rfl, flat_gv r, _, rfl, ?_⟩
        show if (!inV (nv o) (gv r)) = true then _ else _
        rw [in_gv]
        refine ite2 (fun e => ?_) (fun e => y0 (by simpa using e) H1 (Same.refl _))
        refine ⟨_, rfl, _, rfl, _, _, rfl, rfl, rfl, ?_⟩
        exact Eq.mpr (congrArg (fun z => k1 (V.bl z) H1) (hv o)) (y1 e H1 (Same.refl _))
      · intro H1 s1 h1
        refine ⟨Dn, (G.filter fun o => !r.contains o).map fun o => !decide (Gm.endN r c &&& o = 0), rfl, by rw [List.map_map]; exact SqL.of h1, _, rfl, fin H1 _ s1 ?_⟩
        unfold Gm.followP
        rw [hc, List.any_map]
        rfl
    · have hr0 : r = [] := by
        cases r with
        | nil => rfl
        | cons x y => exact absurd rfl hne
      have en : Gm.endN r c = 0 := by rw [hr0]; rfl
      have hv : ∀ o : Nat, (!decide (V.int (Builtin.bitAnd 0 ((o : Nat) : Int)) = V.int 0)) = !decide (Gm.endN r c &&& o = 0) := fun o => by
        rw [show (0 : Int) = ((0 : Nat) : Int) from rfl, and_nat, en]
        exact dz _
      refine ⟨_, rfl, a, rfl, ⟨_, hS⟩, fun Dn hDn => ?_⟩
      refine lc_pick (r := G) (φ := nv) (fun o => !r.contains o) (fun o => V.bl (!decide (Gm.endN r c &&& o = 0))) hS hDn (by omega) ?_ ?_
      · intro o ho H1 s1 k1 k0 y1 y0
        refine ⟨rfl, _, rfl, _, rfl, b, _, rfl, .inl (s1.seq hb), rfl, flat_gv r, _, rfl, ?_⟩
        show if (!inV (nv o) (gv r)) = true then _ else _
        rw [in_gv]
        refine ite2 (fun e => ?_) (fun e => y0 (by simpa using e) H1 (Same.refl _))
        refine ⟨_, rfl, _, rfl, _, _, rfl, rfl, rfl, ?_⟩
        exact Eq.mpr (congrArg (fun z => k1 (V.bl z) H1) (hv o)) (y1 e H1 (Same.refl _))
      · intro H1 s1 h1
        refine ⟨Dn, (G.filter fun o => !r.contains o).map fun o => !decide (Gm.endN r c &&& o = 0), rfl, by rw [List.map_map]; exact SqL.of h1, _, rfl, fin H1 _ s1 ?_⟩
        unfold Gm.followP
        rw [hc, List.any_map]
        rfl
end
end Gp

namespace Gp
open PySem PyProof.Rows L2
open PySem.Spec hiding Row
open Gg (Graph Row joined isGraph nodes)
section
variable {P : Program} {w : World} {K : PySem.W.Frag} {mg : Str → Option Value} {base : Heap} {T : List Tab}
def intervalL (g : Graph) : List Int := if isGraph g = true then (match Gg.chordlessRing g with
    | some r => 0 :: r.map (fun (k : Nat) => (k : Int))
    | none => match Gg.reaching g with
      | some r => 0 :: r.map (fun (k : Nat) => (k : Int))
      | none => 1 :: (Gg.intervals g ((Gg.lined g).getD [])).map (fun (k : Nat) => (k : Int))) else [-1]
def spInterval (T : List Tab) (K : PySem.W.Frag) : Sp := fun vs H Q _ => ∃ (a : Addr) (g : Graph), vs = [.ref a] ∧ SqL K H a (gv g) ∧ g.length ≤ 12 ∧ TB T H ∧ ∀ (H' : Hp) (p : Addr), H' p = some (.lst ((intervalL g).map V.int)) → Q (.ref p) H'
theorem sc_interval : FnScope ["graph", "forbidden", "greatest", "order", "answer", "node", "places", "place"] ["graph"] (defScope s_interval) := ⟨rfl, rfl, rfl, by decide +kernel, rfl, by decide +kernel, by decide +kernel⟩
theorem lam_interval : LamScope ["row", "clique"] ["greatest"] (lamScope s_interval) := ⟨rfl, rfl, rfl, by decide +kernel, by decide +kernel, by decide +kernel, by decide +kernel, by decide +kernel⟩
theorem bind_interval : LamBinds (lamArgs s_interval) ["row", "clique"] := fun _ _ _ _ _ _ _ _ us hl => match us, hl with | [_, _], _ => rfl
theorem ok_interval {f fI fJ fX fG fH fS fQ fY fT fU fW fR fN fM fC fD fF : Addr} {fd fdI fdJ fdX fdG fdH fdS fdQ fdY fdT fdU fdW fdR fdN fdM fdC fdD fdF : FuncData} {t8 : Tok} (ct : Ct T mg base) (D : Dl T K mg base "interval" s_interval ["graph"] f fd) (DI : Df K mg "is_graph" s_is_graph ["graph"] fI fdI) (DJ : Df K mg "joined" s_joined ["graph", "node", "other"] fJ fdJ)
    (DX : Df K mg "first_ring" s_first_ring ["graph", "lengths"] fX fdX) (DG : Df K mg "ring_shape" s_ring_shape ["length"] fG fdG) (DH : Dl T K mg base "first_shaped" s_first_shaped ["graph", "shapes"] fH fdH) (DS : Dl T K mg base "first_of_shape" s_first_of_shape ["graph", "shape"] fS fdS) (DQ : Df K mg "first_row" s_first_row ["length", "choices", "fits"] fQ fdQ) (DY : Df K mg "keeps_shape" s_keeps_shape ["graph", "shape", "row", "node"] fY fdY)
    (DT : Dl T K mg base "first_three" s_first_three ["graph"] fT fdT) (DU : Df K mg "begins_three" s_begins_three ["graph", "row", "node"] fU fdU) (DW : Dl T K mg base "way_past" s_way_past ["graph", "start", "end", "third"] fW fdW) (DR : Df K mg "reached" s_reached ["start", "following"] fR fdR) (DN : Df K mg "neighbours" s_neighbours ["graph", "node", "among"] fN fdN)
    (DM : Df K mg "members" s_members ["nodes"] fM fdM) (DC : Df K mg "greatest_cliques" s_greatest_cliques ["graph"] fC fdC) (DD : Df K mg "is_clique" s_is_clique ["graph", "nodes"] fD fdD) (DF : Df K mg "may_follow" s_may_follow ["greatest", "row", "clique"] fF fdF) (B : Bn mg) (h8 : mg "MOST_NODES" = some (.int 8 t8)) :
    FnOk P w K mg base CX0 10 f fd ["graph"] (spInterval T K) := by
  have GI : FnOk P w K mg base CX0 9 fI fdI ["graph"] (spIsGraph K) := (ok_is_graph DI DJ B h8).mono (by decide)
  have GX : FnOk P w K mg base CX0 9 fX fdX ["graph", "lengths"] (spRing T K) := (ok_first_ring ct DX DG DH DS DQ DY DJ B).mono (by decide)
  have GT : FnOk P w K mg base CX0 9 fT fdT ["graph"] (spThree T K) := ok_first_three ct DT DQ DU DW DR DN DJ B
  have GC : FnOk P w K mg base CX0 9 fC fdC ["graph"] (spGreatest K) := (ok_greatest_cliques DC DD DM B h8).mono (by decide)
  have GM : FnOk P w K mg base CX0 9 fM fdM ["nodes"] spMembers := (ok_members DM B h8).mono (by decide)
  have GF : FnOk P w K mg base CX0 7 fF fdF ["greatest", "row", "clique"] (spFollow K) := (ok_may_follow DF B).mono (by decide)
  have GQ : FnOk P w K mg base CX0 9 fQ fdQ ["length", "choices", "fits"] (spFirstRow P w K mg base T 8) := ok_first_row DQ B
  obtain ⟨c, Pt, hcode, hcd, hmem⟩ := D.cp
  refine D.d.F.okC hcode sc_interval (fun vs H Q E h => ?_) (fun A outer s H vs Q E hr h => ?_)
  · obtain ⟨a, g, rfl, _⟩ := h
    rfl
  · obtain ⟨a, g, rfl, hS, h12, tb, q⟩ := h
    refine ⟨_, pss_cons (ps_if (pt_not (pt_val (pe_call GI hr (by rfl) DI.m DI.F.kp DI.b .nil pass0 (pa_cons (pv 0) pa_nil)))) (pss_one (ps_ret (pe_lst (pa_cons (pe_un un_neg pe_int) pa_nil)))) pss_nil)
      (pss_cons (ps_set (i := 1) sc_interval.nd rfl (Or.inl rfl) (pe_orL (pe_call GX hr (by rfl) DX.m DX.F.kp DX.b .nil pass0 (pa_cons (pv 0) (pa_cons (pe_callTy (call_list_rngO rfl) (by rfl) B.list my_boot_list (pa_cons (pe_callTy call_rng2 (by rfl) B.range boot_range (pa_cons pe_int (pa_cons (pe_op op_add (pe_callB call_len_seq (by rfl) B.len PySem.boot_len (pa_cons (pv 0) pa_nil)) pe_int) pa_nil))) pa_nil)) pa_nil)))
        (pe_one (pe_call GT hr (by rfl) DT.d.m DT.d.F.kp DT.d.b .nil pass0 (pa_cons (pv 0) pa_nil)))))
      (pss_cons (ps_if (pt_truth (pv 1) (fun _ => rfl)) (pss_one (ps_ret (pe_op op_cat (pe_lst (pa_cons pe_int pa_nil)) (pv 1)))) pss_nil)
      (pss_cons (ps_set (i := 2) sc_interval.nd rfl (Or.inr rfl) (pe_call GC hr (by rfl) DC.m DC.F.kp DC.b .nil pass0 (pa_cons (pv 0) pa_nil)))
      (pss_cons (ps_set (i := 3) sc_interval.nd rfl (Or.inr rfl) (pe_callC [("greatest", 2)] GQ hr (by rfl) DQ.m DQ.F.kp DQ.b (fun n hn => by rw [List.mem_singleton.mp hn]; exact ⟨rfl, rfl, rfl⟩)
        (pa_cons (pe_callB call_len_seq (by rfl) B.len PySem.boot_len (pa_cons (pv 2) pa_nil)) (pa_cons (pv 2)
          (pa_cons (pe_lam hmem ct.one rfl hcd ct.bm rfl rfl rfl (fun y hy e => by
            have := List.mem_singleton.mp (lam_interval.only y hy e)
            exact ⟨_, by rw [this]; rfl⟩)) pa_nil)))))
      (pss_cons (ps_set (i := 4) sc_interval.nd rfl (Or.inl rfl) (pe_lst (pa_cons pe_int pa_nil)))
      (pss_cons (ps_for PassesOwn.never rfl (pi_range1 (by rfl) B.range (pa_cons (pe_callB call_len_seq (by rfl) B.len PySem.boot_len (pa_cons (pv 0) pa_nil)) pa_nil)) (pg_name (i := 5) sc_interval.nd rfl (Or.inr rfl))
        (pss_cons (ps_setLc (i := 6) rfl sc_interval.nd rfl rfl (sw_true rfl rfl rfl rfl) (pi_range1 (by rfl) B.range (pa_cons (pe_callB call_len_seq (by rfl) B.len PySem.boot_len (pa_cons (pv 3) pa_nil)) pa_nil)) (own := [("place", 7)]) (blkOk_by (by rfl))
            (fun _ _ _ _ _ => pg_name (i := 7) sc_interval.nd rfl (Or.inl rfl))
            (fun _ _ _ _ _ => pts_one (t := tB (tOp (rIn K false) (tVar 5) (tCall spMembers [] E0 (tCons (tOp (rIxL K) (tVar 3) (tVar 7)) tNil)))) (pt_cmpR (r := rIn K false) op_in_seq (pv 5) (pe_call GM hr (by rfl) DM.m DM.F.kp DM.b .nil pass0 (pa_cons (pe_ix (r := rIxL K) ix_list (pv 3) (pv 7) (fun _ _ => rfl)) pa_nil)) (by rfl)))
            (fun _ _ _ _ _ => pv 7))
        (pss_one (ps_expr (pe_bm PySem.F.plainAttrs_list PySem.F.slot_list_extend PySem.F.type_list_extend mt_extend (pv 4) (pa_cons (pe_lst (pa_cons (pe_ix (r := rIxL K) ix_list (pv 6) pe_int (fun _ _ => rfl)) (pa_cons (pe_ix (r := rIxL K) ix_list (pv 6) (pe_un un_neg pe_int) (fun _ _ => rfl)) pa_nil))) pa_nil))))))
      (pss_one (ps_ret (pv 4))))))))), ?_⟩
    refine ⟨_, rfl, a, g, rfl, hS, h12, _, rfl, ite2 (fun h => ?_) (fun h => ?_)⟩
    · refine ⟨_, rfl, line1000' (by decide), fun p hp => ?_⟩
      refine q _ p ?_
      have e : isGraph g = false := by simpa using h
      unfold intervalL
      rw [upd_same, e]
      rfl
    have e : isGraph g = true := by simpa using h
    have o := Gm.ok_of e
    have hg8 := o.le
    -- forbidden = first_ring(..) or ..
    refine ⟨_, rfl, _, rfl, a, _, rfl, .inl hS, _, _, rfl, rfl, ?_⟩
    rw [gv_len]
    have e1 : ((g.length : Nat) : Int) + 1 = ((g.length + 1 : Nat) : Int) := by omega
    refine ⟨4, _, rfl, fun p0 hp0 => ⟨p0, 4, _, 1, g.length + 1 - 4, rfl, upd_same, ?_⟩⟩
    rw [e1]
    obtain ⟨r1, r2⟩ := rng_from 4 (g.length + 1) (by decide) (by omega)
    refine ⟨r1, r2, by omega, fun l0 hl0 => ?_⟩
    rw [show (4 : Int) = ((4 : Nat) : Int) from rfl, gv_from 4]
    have s0 : Same H (upd (upd H p0 (rngO p0 4 ((g.length + 1 : Nat) : Int) 1)) l0 (.lst (gv ((List.range (g.length + 1 - 4)).map fun i => 4 + i)))) := (same_new hp0).trans (same_new hl0)
    generalize hH0 : upd (upd H p0 (rngO p0 4 ((g.length + 1 : Nat) : Int) 1)) l0 (.lst (gv ((List.range (g.length + 1 - 4)).map fun i => 4 + i))) = H0 at s0
    have el0 : H0 l0 = some (.lst (gv (Gm.lens4L g.length))) := by
      rw [← hH0, upd_same]
      have : g.length + 1 - 4 = g.length - 3 := by omega
      rw [this]; rfl
    have hk : ∀ k ∈ Gm.lens4L g.length, 4 ≤ k ∧ k ≤ 8 := fun k m => by
      obtain ⟨i, hi, rfl⟩ := List.mem_map.mp m
      have := List.mem_range.mp hi
      omega
    have hrise : (Gm.lens4L g.length).Pairwise (· < ·) := by
      unfold Gm.lens4L
      rw [List.pairwise_map]
      exact List.Pairwise.imp (fun h => by omega) List.pairwise_lt_range
    refine ⟨a, l0, g, Gm.lens4L g.length, rfl, s0.seq hS, o, SqL.of el0, by unfold Gm.lens4L; rw [List.length_map, List.length_range]; omega, fun k m => by have := hk k m; omega, hrise, tb.same s0, fun H1 l1 g1 hl1 h1 => ?_⟩
    rw [← Gm.chordlessRing_lens o] at h1
    have gH1 : Gr T H H1 := (Gr.of s0).trans g1
    -- [0] + forbidden
    have told : ∀ (H2 : Hp) (l2 : Addr) (r : Row) (z : Addr), H2 l2 = some (.lst (gv r)) → H2 z = none → r.length ≤ 8 → intervalL g = 0 :: r.map (fun (k : Nat) => (k : Int)) → ∀ (p : Addr), Q (.ref p) (upd (upd H2 z (.lst [V.int 0])) p (.lst ([V.int 0] ++ gv r))) := fun H2 l2 r z h2 hz hr8 er p => by
      refine q _ p ?_
      rw [upd_same, er, List.map_cons, List.map_map]
      rfl
    refine ⟨_, .inl ⟨_, SqL.of h1, rfl⟩, ite2 (fun hc => ?_) (fun hc => ?_)⟩
    · cases eb : Gg.chordlessRing g with
      | none => rw [eb] at hc; exact absurd hc (by decide)
      | some r =>
        have eb' := eb
        rw [Gm.chordlessRing_lens o] at eb'
        obtain ⟨_, k, hkm, hlen⟩ := ring_ne (fun k m => by have := hk k m; omega) eb'
        have := hk k hkm
        rw [eb] at h1 hc
        have h1 : H1 l1 = some (.lst (gv r)) := h1
        have hc : (!(gv r).isEmpty) = true := hc
        refine ⟨_, rfl, _, .inl ⟨_, SqL.of h1, rfl⟩, ?_⟩
        rw [hc]
        refine iteT ⟨line1000' (by decide), fun z hz => ⟨_, rfl, z, l1, _, _, rfl, rfl, upd_same, by rw [upd_ne (ne_of_none h1 hz)]; exact h1, line1000' (by rw [gv_len]; show 1 + r.length ≤ 1000; omega), fun p hp => told H1 l1 r z h1 hz (by omega) ?_ p⟩⟩
        unfold intervalL
        rw [if_pos e, eb]
    have eb : Gg.chordlessRing g = none := by
      cases eb : Gg.chordlessRing g with
      | none => rfl
      | some r =>
        have eb' := eb
        rw [Gm.chordlessRing_lens o] at eb'
        have hne := (ring_ne (fun k m => by have := hk k m; omega) eb').1
        rw [eb] at hc
        cases r with
        | nil => exact absurd rfl hne
        | cons x y => exact absurd rfl hc
    refine ⟨_, rfl, a, g, rfl, gH1.seq hS, o, gH1.tb tb, fun H2 l2 g2 hl2 h2 => ?_⟩
    have gH2 := gH1.trans g2
    refine ⟨_, rfl, _, .inl ⟨_, SqL.of h2, rfl⟩, ite2 (fun hd => ?_) (fun hd => ?_)⟩
    · cases ec : Gg.reaching g with
      | none => rw [ec] at hd; exact absurd hd (by decide)
      | some r =>
        have hr3 : r.length = 3 := (Gm.rowsOf_mem (List.mem_of_find?_eq_some ec)).1
        rw [ec] at h2
        have h2 : H2 l2 = some (.lst (gv r)) := h2
        refine ⟨line1000' (by decide), fun z hz => ⟨_, rfl, z, l2, _, _, rfl, rfl, upd_same, by rw [upd_ne (ne_of_none h2 hz)]; exact h2, line1000' (by rw [gv_len, hr3]; show 1 + 3 ≤ 1000; decide), fun p hp => told H2 l2 r z h2 hz (by omega) ?_ p⟩⟩
        unfold intervalL
        rw [if_pos e, eb, ec]
    have ec : Gg.reaching g = none := by
      cases ec : Gg.reaching g with
      | none => rfl
      | some r =>
        have hr3 : r.length = 3 := (Gm.rowsOf_mem (List.mem_of_find?_eq_some ec)).1
        rw [ec] at hd
        cases r with
        | nil => cases hr3
        | cons x y => exact absurd rfl hd
    obtain ⟨R, hR⟩ := Option.isSome_iff_exists.mp (Gm.lined_some o eb ec)
    obtain ⟨hRl, hRm, hRp⟩ := Gm.lined_facts o hR
    have hcl : (Gg.cliques g).length ≤ 255 := by
      rw [Gm.cliques_from o]
      have := List.length_filter_le (Gm.great g) ((List.range (2 ^ g.length - 1)).map fun i => 1 + i)
      rw [List.length_map, List.length_range] at this
      have pw : (2 : Nat) ^ g.length ≤ 256 := Nat.pow_le_pow_right (n := 2) (j := 8) (by decide) hg8
      omega
    -- greatest = ..
    refine ⟨_, rfl, a, g, rfl, gH2.seq hS, o, fun H3 l3 s3 hl3 h3 => ?_⟩
    have gH3 : Gr T H H3 := gH2.trans (.of s3)
    refine ⟨_, rfl, l3, _, rfl, .inl (SqL.of h3), ?_⟩
    rw [gv_len]
    refine ⟨_, rfl, gH3.tb tb, fun H4 fL cL ctv g4 hf hf4 hcd4 => ⟨fun n hn => by rw [List.mem_singleton.mp hn]; exact ⟨_, rfl⟩, fun cs hcs hcn => ?_⟩⟩
    have hf4 : H4 fL = some (fz (lamObj s_interval "interval" mg [("greatest", s.heap.objs.size + 3)] cL ctv)) := hf4
    obtain ⟨L, ecs, hcell⟩ := lam_one hcs (n := s.heap.objs.size + 3) rfl (v := .ref l3) rfl hf4 hcd4 hcn
    have c0 := L.cells (clo_one _ _)
    have h34 : H4 l3 = some (.lst (gv (Gg.cliques g))) := g4.lst h3
    refine ⟨(Gg.cliques g).length, l3, fL, Gg.cliques g, Gm.followP (Gg.cliques g), rfl, (same_shw hcn).seq (SqL.of h34), by omega, by omega, ?_, fun H5 l5 g5 hl5 h5 => ?_⟩
    · refine cb_lam lam_interval (clo_one _ _) rfl bind_interval L
        (fun A outer s H hr => pe_call GF hr (by rfl) DF.m DF.F.kp DF.b .nil pass0 (pa_cons (pv 2) (pa_cons (pv 0) (pa_cons (pv 1) pa_nil)))) fun H6 g6 b r v hb hrl _ hv Q' hQ' => ?_
      exact ⟨_, rfl, _, rfl, _, rfl, l3, b, Gg.cliques g, r, v, rfl, g6.seq (hid_seq c0 ((same_shw hcn).seq (SqL.of h34))), SqL.of hb, by omega, fun H7 s7 => hQ' H7 (.of s7)⟩
    obtain ⟨n1, n2⟩ := new_shown hl5 h5
    rw [Gm.lined_dfs, hR] at n2
    have n2 : hid (cs.map (·.1)) H5 l5 = some (.lst (gv R)) := n2
    have gH5 : Gr T H (hid (cs.map (·.1)) H5) := gH3.trans (g4.trans (Gr.shown hcn hcell g5))
    generalize hid (cs.map (·.1)) H5 = H6 at n2 gH5
    -- answer = [1]
    refine ⟨line1000' (by show 1 ≤ 1000; decide), fun la hla => ?_⟩
    have s7 : Same H6 (upd H6 la (.lst [V.int 1])) := same_new hla
    have e7 : (upd H6 la (.lst [V.int 1])) la = some (.lst [V.int 1]) := upd_same
    generalize upd H6 la (.lst [V.int 1]) = H7 at s7 e7
    refine ⟨_, rfl, a, _, rfl, .inl (s7.seq (gH5.seq hS)), ?_⟩
    rw [gv_len]
    refine ⟨_, rfl, by omega, by omega, ?_⟩
    rw [Int.toNat_natCast]
    have hlen : ∀ n, ((List.range n).flatMap fun v => [(Gm.places R v).getD 0 0, (Gm.places R v).getLastD 0]).length = 2 * n := fun n => by
      induction n with
      | zero => rfl
      | succ n ih => rw [List.range_succ, List.flatMap_append, List.length_append, ih, List.flatMap_singleton]; rfl
    have l5la : l5 ≠ la := ne_of_none n2 hla
    refine for_range (n := g.length) (fun i σ H' => ∃ (v5 v6 : Option V), σ = [some (.ref a), some (.ref l2), some (.ref l3), some (.ref l5), some (.ref la), v5, v6, none] ∧ Same H6 H' ∧ H' la = some (.lst (V.int 1 :: gv ((List.range i).flatMap fun v => [(Gm.places R v).getD 0 0, (Gm.places R v).getLastD 0]))))
      ⟨none, none, rfl, s7, e7⟩ ?_ ?_
    · rintro i σ H8 hi ⟨v5, v6, rfl, s8, h8⟩
      rw [Int.zero_add]
      have n28 : H8 l5 = some (.lst (gv R)) := s8 _ _ n2
      refine ⟨_, rfl, l5, _, rfl, .inl (SqL.of n28), ?_⟩
      rw [gv_len]
      refine ⟨_, rfl, by omega, by omega, fun Dn hDn => ?_⟩
      rw [Int.toNat_natCast]
      refine lc_pickR (n := R.length) (fun j => (Gg.node R j).testBit i) nv hDn (by omega) ?_ ?_
      · intro j hj H9 s9 k1 k0 y1 y0
        refine ⟨rfl, _, rfl, _, rfl, _, rfl, l5, _, _, _, rfl, rfl, SqL.of (s9 _ _ n28), gv_at hj, Gg.node R j, rfl, fun H10 l10 s10 hl10 h10 => ⟨l10, _, rfl, .inl (SqL.of h10), rfl, flat_gv _, _, rfl, ?_⟩⟩
        show if inV (nv i) (gv (mem8 (Gg.node R j))) = true then _ else _
        rw [in_gv]
        have em : (mem8 (Gg.node R j)).contains i = (Gg.node R j).testBit i := by
          rw [Bool.eq_iff_iff, List.contains_iff_mem]
          unfold mem8
          rw [List.mem_filter, List.mem_range]
          exact ⟨fun h => h.2, fun h => ⟨by omega, h⟩⟩
        rw [em]
        refine ite2 (fun e => ⟨_, rfl, y1 e H10 s10⟩) (fun e => y0 (by simpa using e) H10 s10)
      intro H9 s9 h9
      have h9 : H9 Dn = some (.lst (gv (Gm.places R i))) := h9
      have hpn := (hRp i hi).1
      have hp0 : 0 < (Gm.places R i).length := List.length_pos_iff.mpr hpn
      have x0 : atI (gv (Gm.places R i)) 0 = some (nv ((Gm.places R i).getD 0 0)) := gv_at (i := 0) hp0
      have x1 : atI (gv (Gm.places R i)) (-1) = some (nv ((Gm.places R i).getLastD 0)) := by
        obtain ⟨p0, l, ep⟩ : ∃ p0 l, Gm.places R i = p0 ++ [l] := ⟨_, _, (List.dropLast_concat_getLast hpn).symm⟩
        rw [ep, gv_snoc, List.getLastD_eq_getLast?, List.getLast?_append]
        exact atI_last _ _
      have h89 := s9 _ _ h8
      refine ⟨_, rfl, .inl ⟨rfl, _, SqL.of h89⟩, _, rfl, Dn, _, 0, _, rfl, rfl, SqL.of h9, x0, _, rfl, _, rfl, Dn, _, _, _, rfl, rfl, SqL.of h9, x1, line1000' (by show 2 ≤ 1000; decide), fun t ht => ⟨la, t, _, _, rfl, rfl, (upd_ne (ne_of_none h89 ht)).trans h89, upd_same, ?_, ?_⟩⟩
      · have := hlen i
        rw [List.length_cons, gv_len, this, sizeLine_eq]
        show 2 * i + 1 + 2 ≤ _
        omega
      · refine ⟨_, _, rfl, Same.put ((s8.trans s9).trans (same_new ht)) hla, ?_⟩
        rw [upd_same, List.range_succ, List.flatMap_append, List.flatMap_singleton]
        unfold gv
        rw [List.map_append]
        rfl
    · rintro σ H8 ⟨v5, v6, rfl, s8, h8⟩
      refine ⟨_, rfl, q H8 la ?_⟩
      rw [h8, ← Gm.intervals_eq o hR]
      unfold intervalL
      rw [if_pos e, eb, ec, hR]
      dsimp only
      rw [Option.getD_some, List.map_cons, List.map_map]
      rfl
end
end Gp

namespace Gp
open PySem PyProof.Rows L2
open PySem.Spec hiding Row
def lams : List (Str × Stmt) := [("first_of_shape", s_first_of_shape), ("first_shaped", s_first_shaped), ("way_past", s_way_past), ("first_three", s_first_three), ("interval", s_interval)]
theorem all_mk {q0 : Program} {P : Program} {w : World} {K : PySem.W.Frag} {h : Heap} {mg : Str → Option Value} {fa f0 f1 f2 f3 f4 f5 f6 f7 f8 f9 f10 f11 f12 f13 f14 f15 f16 f17 : Addr} (X : K.In h) (G : h.Ns mainGlobals mg) (hfa : mg "interval" = some (.ref fa))
    {od0 an0 od1 an1 od2 an2 od3 an3 od4 an4 od5 an5 od6 an6 od7 an7 od8 an8 od9 an9 od10 an10 od11 an11 od12 an12 od13 an13 od14 an14 od15 an15 od16 an16 od17 an17 : Option Addr} {sl0 sl1 sl2 sl3 sl4 sl5 sl6 sl7 sl8 sl9 sl10 sl11 sl12 sl13 sl14 sl15 sl16 sl17 : Array (Option Value)} {oc0 kV0 dc0 pm0 cd0 ct0 oc1 kV1 dc1 pm1 cd1 ct1 oc2 kV2 dc2 pm2 cd2 ct2 oc3 kV3 dc3 pm3 cd3 ct3 oc4 kV4 dc4 pm4 cd4 ct4 oc5 kV5 dc5 pm5 cd5 ct5 oc6 kV6 dc6 pm6 cd6 ct6 oc7 kV7 dc7 pm7 cd7 ct7 oc8 kV8 dc8 pm8 cd8 ct8 oc9 kV9 dc9 pm9 cd9 ct9 oc10 kV10 dc10 pm10 cd10 ct10 oc11 kV11 dc11 pm11 cd11 ct11 oc12 kV12 dc12 pm12 cd12 ct12 oc13 kV13 dc13 pm13 cd13 ct13 oc14 kV14 dc14 pm14 cd14 ct14 oc15 kV15 dc15 pm15 cd15 ct15 oc16 kV16 dc16 pm16 cd16 ct16 oc17 kV17 dc17 pm17 cd17 ct17 : Value} {t_MOST_NODES : Tok}
    (a0 : PySem.W.nsIn K mainGlobals "joined" = some (some (.ref f0))) (l0 : K.lookup f0 = some ⟨oc0, od0, .func (PySem.W.fnOf "joined" "joined" (defArgs s_joined) (defBody s_joined) (defScope s_joined) .none kV0 dc0 pm0 an0 cd0 ct0), sl0⟩) (c0 : PySem.W.codeIn K cd0 "joined" = true) (k0 : PySem.W.keepIn K (.ref f0) = true)
    (a1 : PySem.W.nsIn K mainGlobals "is_graph" = some (some (.ref f1))) (l1 : K.lookup f1 = some ⟨oc1, od1, .func (PySem.W.fnOf "is_graph" "is_graph" (defArgs s_is_graph) (defBody s_is_graph) (defScope s_is_graph) .none kV1 dc1 pm1 an1 cd1 ct1), sl1⟩) (c1 : PySem.W.codeIn K cd1 "is_graph" = true) (k1 : PySem.W.keepIn K (.ref f1) = true)
    (a2 : PySem.W.nsIn K mainGlobals "members" = some (some (.ref f2))) (l2 : K.lookup f2 = some ⟨oc2, od2, .func (PySem.W.fnOf "members" "members" (defArgs s_members) (defBody s_members) (defScope s_members) .none kV2 dc2 pm2 an2 cd2 ct2), sl2⟩) (c2 : PySem.W.codeIn K cd2 "members" = true) (k2 : PySem.W.keepIn K (.ref f2) = true)
    (a3 : PySem.W.nsIn K mainGlobals "neighbours" = some (some (.ref f3))) (l3 : K.lookup f3 = some ⟨oc3, od3, .func (PySem.W.fnOf "neighbours" "neighbours" (defArgs s_neighbours) (defBody s_neighbours) (defScope s_neighbours) .none kV3 dc3 pm3 an3 cd3 ct3), sl3⟩) (c3 : PySem.W.codeIn K cd3 "neighbours" = true) (k3 : PySem.W.keepIn K (.ref f3) = true)
    (a4 : PySem.W.nsIn K mainGlobals "first_row" = some (some (.ref f4))) (l4 : K.lookup f4 = some ⟨oc4, od4, .func (PySem.W.fnOf "first_row" "first_row" (defArgs s_first_row) (defBody s_first_row) (defScope s_first_row) .none kV4 dc4 pm4 an4 cd4 ct4), sl4⟩) (c4 : PySem.W.codeIn K cd4 "first_row" = true) (k4 : PySem.W.keepIn K (.ref f4) = true)
    (a5 : PySem.W.nsIn K mainGlobals "keeps_shape" = some (some (.ref f5))) (l5 : K.lookup f5 = some ⟨oc5, od5, .func (PySem.W.fnOf "keeps_shape" "keeps_shape" (defArgs s_keeps_shape) (defBody s_keeps_shape) (defScope s_keeps_shape) .none kV5 dc5 pm5 an5 cd5 ct5), sl5⟩) (c5 : PySem.W.codeIn K cd5 "keeps_shape" = true) (k5 : PySem.W.keepIn K (.ref f5) = true)
    (a6 : PySem.W.nsIn K mainGlobals "first_of_shape" = some (some (.ref f6))) (l6 : K.lookup f6 = some ⟨oc6, od6, .func (PySem.W.fnOf "first_of_shape" "first_of_shape" (defArgs s_first_of_shape) (defBody s_first_of_shape) (defScope s_first_of_shape) .none kV6 dc6 pm6 an6 cd6 ct6), sl6⟩) (c6 : PySem.W.codeIn K cd6 "first_of_shape" = true) (k6 : PySem.W.keepIn K (.ref f6) = true)
    (a7 : PySem.W.nsIn K mainGlobals "first_shaped" = some (some (.ref f7))) (l7 : K.lookup f7 = some ⟨oc7, od7, .func (PySem.W.fnOf "first_shaped" "first_shaped" (defArgs s_first_shaped) (defBody s_first_shaped) (defScope s_first_shaped) .none kV7 dc7 pm7 an7 cd7 ct7), sl7⟩) (c7 : PySem.W.codeIn K cd7 "first_shaped" = true) (k7 : PySem.W.keepIn K (.ref f7) = true)
    (a8 : PySem.W.nsIn K mainGlobals "ring_shape" = some (some (.ref f8))) (l8 : K.lookup f8 = some ⟨oc8, od8, .func (PySem.W.fnOf "ring_shape" "ring_shape" (defArgs s_ring_shape) (defBody s_ring_shape) (defScope s_ring_shape) .none kV8 dc8 pm8 an8 cd8 ct8), sl8⟩) (c8 : PySem.W.codeIn K cd8 "ring_shape" = true) (k8 : PySem.W.keepIn K (.ref f8) = true)
    (a9 : PySem.W.nsIn K mainGlobals "first_ring" = some (some (.ref f9))) (l9 : K.lookup f9 = some ⟨oc9, od9, .func (PySem.W.fnOf "first_ring" "first_ring" (defArgs s_first_ring) (defBody s_first_ring) (defScope s_first_ring) .none kV9 dc9 pm9 an9 cd9 ct9), sl9⟩) (c9 : PySem.W.codeIn K cd9 "first_ring" = true) (k9 : PySem.W.keepIn K (.ref f9) = true)
    (a10 : PySem.W.nsIn K mainGlobals "is_clique" = some (some (.ref f10))) (l10 : K.lookup f10 = some ⟨oc10, od10, .func (PySem.W.fnOf "is_clique" "is_clique" (defArgs s_is_clique) (defBody s_is_clique) (defScope s_is_clique) .none kV10 dc10 pm10 an10 cd10 ct10), sl10⟩) (c10 : PySem.W.codeIn K cd10 "is_clique" = true) (k10 : PySem.W.keepIn K (.ref f10) = true)
    (a11 : PySem.W.nsIn K mainGlobals "greatest_cliques" = some (some (.ref f11))) (l11 : K.lookup f11 = some ⟨oc11, od11, .func (PySem.W.fnOf "greatest_cliques" "greatest_cliques" (defArgs s_greatest_cliques) (defBody s_greatest_cliques) (defScope s_greatest_cliques) .none kV11 dc11 pm11 an11 cd11 ct11), sl11⟩) (c11 : PySem.W.codeIn K cd11 "greatest_cliques" = true) (k11 : PySem.W.keepIn K (.ref f11) = true)
    (a12 : PySem.W.nsIn K mainGlobals "reached" = some (some (.ref f12))) (l12 : K.lookup f12 = some ⟨oc12, od12, .func (PySem.W.fnOf "reached" "reached" (defArgs s_reached) (defBody s_reached) (defScope s_reached) .none kV12 dc12 pm12 an12 cd12 ct12), sl12⟩) (c12 : PySem.W.codeIn K cd12 "reached" = true) (k12 : PySem.W.keepIn K (.ref f12) = true)
    (a13 : PySem.W.nsIn K mainGlobals "way_past" = some (some (.ref f13))) (l13 : K.lookup f13 = some ⟨oc13, od13, .func (PySem.W.fnOf "way_past" "way_past" (defArgs s_way_past) (defBody s_way_past) (defScope s_way_past) .none kV13 dc13 pm13 an13 cd13 ct13), sl13⟩) (c13 : PySem.W.codeIn K cd13 "way_past" = true) (k13 : PySem.W.keepIn K (.ref f13) = true)
    (a14 : PySem.W.nsIn K mainGlobals "begins_three" = some (some (.ref f14))) (l14 : K.lookup f14 = some ⟨oc14, od14, .func (PySem.W.fnOf "begins_three" "begins_three" (defArgs s_begins_three) (defBody s_begins_three) (defScope s_begins_three) .none kV14 dc14 pm14 an14 cd14 ct14), sl14⟩) (c14 : PySem.W.codeIn K cd14 "begins_three" = true) (k14 : PySem.W.keepIn K (.ref f14) = true)
    (a15 : PySem.W.nsIn K mainGlobals "first_three" = some (some (.ref f15))) (l15 : K.lookup f15 = some ⟨oc15, od15, .func (PySem.W.fnOf "first_three" "first_three" (defArgs s_first_three) (defBody s_first_three) (defScope s_first_three) .none kV15 dc15 pm15 an15 cd15 ct15), sl15⟩) (c15 : PySem.W.codeIn K cd15 "first_three" = true) (k15 : PySem.W.keepIn K (.ref f15) = true)
    (a16 : PySem.W.nsIn K mainGlobals "may_follow" = some (some (.ref f16))) (l16 : K.lookup f16 = some ⟨oc16, od16, .func (PySem.W.fnOf "may_follow" "may_follow" (defArgs s_may_follow) (defBody s_may_follow) (defScope s_may_follow) .none kV16 dc16 pm16 an16 cd16 ct16), sl16⟩) (c16 : PySem.W.codeIn K cd16 "may_follow" = true) (k16 : PySem.W.keepIn K (.ref f16) = true)
    (a17 : PySem.W.nsIn K mainGlobals "interval" = some (some (.ref f17))) (l17 : K.lookup f17 = some ⟨oc17, od17, .func (PySem.W.fnOf "interval" "interval" (defArgs s_interval) (defBody s_interval) (defScope s_interval) .none kV17 dc17 pm17 an17 cd17 ct17), sl17⟩) (c17 : PySem.W.codeIn K cd17 "interval" = true) (k17 : PySem.W.keepIn K (.ref f17) = true)
    {cc6 Pt6 : Addr} {ocd6 : Value} {odd6 : Option Addr} {vsd6 : Array Value} {sld6 : Array (Option Value)} {dd6 : DefRec} (e6 : cd6 = .ref cc6) (x6 : K.lookup cc6 = some ⟨ocd6, odd6, .fields vsd6, sld6⟩) (v6 : vsd6[11]? = some (.ref Pt6)) (r6 : (recsOf q0).find? (fun e => e.name == ("first_of_shape" : Str)) = some dd6)
    {cc7 Pt7 : Addr} {ocd7 : Value} {odd7 : Option Addr} {vsd7 : Array Value} {sld7 : Array (Option Value)} {dd7 : DefRec} (e7 : cd7 = .ref cc7) (x7 : K.lookup cc7 = some ⟨ocd7, odd7, .fields vsd7, sld7⟩) (v7 : vsd7[11]? = some (.ref Pt7)) (r7 : (recsOf q0).find? (fun e => e.name == ("first_shaped" : Str)) = some dd7)
    {cc13 Pt13 : Addr} {ocd13 : Value} {odd13 : Option Addr} {vsd13 : Array Value} {sld13 : Array (Option Value)} {dd13 : DefRec} (e13 : cd13 = .ref cc13) (x13 : K.lookup cc13 = some ⟨ocd13, odd13, .fields vsd13, sld13⟩) (v13 : vsd13[11]? = some (.ref Pt13)) (r13 : (recsOf q0).find? (fun e => e.name == ("way_past" : Str)) = some dd13)
    {cc15 Pt15 : Addr} {ocd15 : Value} {odd15 : Option Addr} {vsd15 : Array Value} {sld15 : Array (Option Value)} {dd15 : DefRec} (e15 : cd15 = .ref cc15) (x15 : K.lookup cc15 = some ⟨ocd15, odd15, .fields vsd15, sld15⟩) (v15 : vsd15[11]? = some (.ref Pt15)) (r15 : (recsOf q0).find? (fun e => e.name == ("first_three" : Str)) = some dd15)
    {cc17 Pt17 : Addr} {ocd17 : Value} {odd17 : Option Addr} {vsd17 : Array Value} {sld17 : Array (Option Value)} {dd17 : DefRec} (e17 : cd17 = .ref cc17) (x17 : K.lookup cc17 = some ⟨ocd17, odd17, .fields vsd17, sld17⟩) (v17 : vsd17[11]? = some (.ref Pt17)) (r17 : (recsOf q0).find? (fun e => e.name == ("interval" : Str)) = some dd17)
    (nd : ([Pt6, Pt7, Pt13, Pt15, Pt17] : List Addr).Nodup) (nt : PySem.W.noTabs K = true)
    (z_len : PySem.W.nsIn K mainGlobals "len" = some none)
    (z_range : PySem.W.nsIn K mainGlobals "range" = some none)
    (z_any : PySem.W.nsIn K mainGlobals "any" = some none)
    (z_min : PySem.W.nsIn K mainGlobals "min" = some none)
    (z_list : PySem.W.nsIn K mainGlobals "list" = some none)
    (z_sum : PySem.W.nsIn K mainGlobals "sum" = some none)
    (z_all : PySem.W.nsIn K mainGlobals "all" = some none)
    (z_max : PySem.W.nsIn K mainGlobals "max" = some none)
    (z_sorted : PySem.W.nsIn K mainGlobals "sorted" = some none)
    (z_reversed : PySem.W.nsIn K mainGlobals "reversed" = some none)
    (z_tuple : PySem.W.nsIn K mainGlobals "tuple" = some none)
    (m_MOST_NODES : PySem.W.nsIn K mainGlobals "MOST_NODES" = some (some (.int 8 t_MOST_NODES)))
    : PySem.W.noTabs K = true ∧ (∀ t ∈ tabsOf lams K, ∃ x dd, (recsOf q0).find? (fun e => e.name == x) = some dd ∧ PySem.W.tabIn K x = some t) ∧ ∃ fd : FuncData, (∀ (s : Shared) (us : List Value), us.length = (["graph"] : List Str).length → BindsTo s fd ⟨us, []⟩ ((["graph"] : List Str).zip us)) ∧ ∀ base : Heap, K.In base → base.Ns mainGlobals mg → BMain mg base → (∀ t ∈ tabsOf lams K, PySem.W.CodeHd base t.1 t.2) → FnOk P w K mg base CX0 10 fa fd ["graph"] (spInterval (TTof lams K) K) := by
  have e := hfa.symm.trans (PySem.W.mg_of X G a17)
  cases e
  have F0 := fun_mk (st := s_joined) l0 c0 k0
  have D0 : Df K mg "joined" s_joined ["graph", "node", "other"] _ _ := ⟨F0, PySem.W.mg_of X G a0, F0.binds (ps := ["graph", "node", "other"]) fun _ _ _ _ _ _ us hl => match us, hl with | [_, _, _], _ => rfl⟩
  have F1 := fun_mk (st := s_is_graph) l1 c1 k1
  have D1 : Df K mg "is_graph" s_is_graph ["graph"] _ _ := ⟨F1, PySem.W.mg_of X G a1, F1.binds (ps := ["graph"]) fun _ _ _ _ _ _ us hl => match us, hl with | [_], _ => rfl⟩
  have F2 := fun_mk (st := s_members) l2 c2 k2
  have D2 : Df K mg "members" s_members ["nodes"] _ _ := ⟨F2, PySem.W.mg_of X G a2, F2.binds (ps := ["nodes"]) fun _ _ _ _ _ _ us hl => match us, hl with | [_], _ => rfl⟩
  have F3 := fun_mk (st := s_neighbours) l3 c3 k3
  have D3 : Df K mg "neighbours" s_neighbours ["graph", "node", "among"] _ _ := ⟨F3, PySem.W.mg_of X G a3, F3.binds (ps := ["graph", "node", "among"]) fun _ _ _ _ _ _ us hl => match us, hl with | [_, _, _], _ => rfl⟩
  have F4 := fun_mk (st := s_first_row) l4 c4 k4
  have D4 : Df K mg "first_row" s_first_row ["length", "choices", "fits"] _ _ := ⟨F4, PySem.W.mg_of X G a4, F4.binds (ps := ["length", "choices", "fits"]) fun _ _ _ _ _ _ us hl => match us, hl with | [_, _, _], _ => rfl⟩
  have F5 := fun_mk (st := s_keeps_shape) l5 c5 k5
  have D5 : Df K mg "keeps_shape" s_keeps_shape ["graph", "shape", "row", "node"] _ _ := ⟨F5, PySem.W.mg_of X G a5, F5.binds (ps := ["graph", "shape", "row", "node"]) fun _ _ _ _ _ _ us hl => match us, hl with | [_, _, _, _], _ => rfl⟩
  have F6 := fun_mk (st := s_first_of_shape) l6 c6 k6
  have D6 : Df K mg "first_of_shape" s_first_of_shape ["graph", "shape"] _ _ := ⟨F6, PySem.W.mg_of X G a6, F6.binds (ps := ["graph", "shape"]) fun _ _ _ _ _ _ us hl => match us, hl with | [_, _], _ => rfl⟩
  have F7 := fun_mk (st := s_first_shaped) l7 c7 k7
  have D7 : Df K mg "first_shaped" s_first_shaped ["graph", "shapes"] _ _ := ⟨F7, PySem.W.mg_of X G a7, F7.binds (ps := ["graph", "shapes"]) fun _ _ _ _ _ _ us hl => match us, hl with | [_, _], _ => rfl⟩
  have F8 := fun_mk (st := s_ring_shape) l8 c8 k8
  have D8 : Df K mg "ring_shape" s_ring_shape ["length"] _ _ := ⟨F8, PySem.W.mg_of X G a8, F8.binds (ps := ["length"]) fun _ _ _ _ _ _ us hl => match us, hl with | [_], _ => rfl⟩
  have F9 := fun_mk (st := s_first_ring) l9 c9 k9
  have D9 : Df K mg "first_ring" s_first_ring ["graph", "lengths"] _ _ := ⟨F9, PySem.W.mg_of X G a9, F9.binds (ps := ["graph", "lengths"]) fun _ _ _ _ _ _ us hl => match us, hl with | [_, _], _ => rfl⟩
  have F10 := fun_mk (st := s_is_clique) l10 c10 k10
  have D10 : Df K mg "is_clique" s_is_clique ["graph", "nodes"] _ _ := ⟨F10, PySem.W.mg_of X G a10, F10.binds (ps := ["graph", "nodes"]) fun _ _ _ _ _ _ us hl => match us, hl with | [_, _], _ => rfl⟩
  have F11 := fun_mk (st := s_greatest_cliques) l11 c11 k11
  have D11 : Df K mg "greatest_cliques" s_greatest_cliques ["graph"] _ _ := ⟨F11, PySem.W.mg_of X G a11, F11.binds (ps := ["graph"]) fun _ _ _ _ _ _ us hl => match us, hl with | [_], _ => rfl⟩
  have F12 := fun_mk (st := s_reached) l12 c12 k12
  have D12 : Df K mg "reached" s_reached ["start", "following"] _ _ := ⟨F12, PySem.W.mg_of X G a12, F12.binds (ps := ["start", "following"]) fun _ _ _ _ _ _ us hl => match us, hl with | [_, _], _ => rfl⟩
  have F13 := fun_mk (st := s_way_past) l13 c13 k13
  have D13 : Df K mg "way_past" s_way_past ["graph", "start", "end", "third"] _ _ := ⟨F13, PySem.W.mg_of X G a13, F13.binds (ps := ["graph", "start", "end", "third"]) fun _ _ _ _ _ _ us hl => match us, hl with | [_, _, _, _], _ => rfl⟩
  have F14 := fun_mk (st := s_begins_three) l14 c14 k14
  have D14 : Df K mg "begins_three" s_begins_three ["graph", "row", "node"] _ _ := ⟨F14, PySem.W.mg_of X G a14, F14.binds (ps := ["graph", "row", "node"]) fun _ _ _ _ _ _ us hl => match us, hl with | [_, _, _], _ => rfl⟩
  have F15 := fun_mk (st := s_first_three) l15 c15 k15
  have D15 : Df K mg "first_three" s_first_three ["graph"] _ _ := ⟨F15, PySem.W.mg_of X G a15, F15.binds (ps := ["graph"]) fun _ _ _ _ _ _ us hl => match us, hl with | [_], _ => rfl⟩
  have F16 := fun_mk (st := s_may_follow) l16 c16 k16
  have D16 : Df K mg "may_follow" s_may_follow ["greatest", "row", "clique"] _ _ := ⟨F16, PySem.W.mg_of X G a16, F16.binds (ps := ["greatest", "row", "clique"]) fun _ _ _ _ _ _ us hl => match us, hl with | [_, _, _], _ => rfl⟩
  have F17 := fun_mk (st := s_interval) l17 c17 k17
  have D17 : Df K mg "interval" s_interval ["graph"] _ _ := ⟨F17, PySem.W.mg_of X G a17, F17.binds (ps := ["graph"]) fun _ _ _ _ _ _ us hl => match us, hl with | [_], _ => rfl⟩
  have tb6 : PySem.W.tabIn K "first_of_shape" = some (cc6, Pt6) := tabIn_of a6 l6 e6 x6 v6
  have tb7 : PySem.W.tabIn K "first_shaped" = some (cc7, Pt7) := tabIn_of a7 l7 e7 x7 v7
  have tb13 : PySem.W.tabIn K "way_past" = some (cc13, Pt13) := tabIn_of a13 l13 e13 x13 v13
  have tb15 : PySem.W.tabIn K "first_three" = some (cc15, Pt15) := tabIn_of a15 l15 e15 x15 v15
  have tb17 : PySem.W.tabIn K "interval" = some (cc17, Pt17) := tabIn_of a17 l17 e17 x17 v17
  have ndT : ((TTof lams K).map (·.P)).Nodup := by
    unfold TTof lams tabAt
    simp only [List.map_cons, List.map_nil, tabOf]
    rw [tb6, tb7, tb13, tb15, tb17]
    exact nd
  have B : Bn mg := ⟨PySem.W.mg_none_of X G z_len, PySem.W.mg_none_of X G z_range, PySem.W.mg_none_of X G z_any, PySem.W.mg_none_of X G z_min, PySem.W.mg_none_of X G z_list, PySem.W.mg_none_of X G z_sum, PySem.W.mg_none_of X G z_all, PySem.W.mg_none_of X G z_max, PySem.W.mg_none_of X G z_sorted, PySem.W.mg_none_of X G z_reversed, PySem.W.mg_none_of X G z_tuple⟩
  refine ⟨nt, fun t m => ?_, PySem.W.fnOf "interval" "interval" (defArgs s_interval) (defBody s_interval) (defScope s_interval) .none kV17 dc17 pm17 an17 cd17 ct17, fun s us hu => match us, hu with | [_], _ => .of_eq rfl, fun base _ _ bm hcd => ?_⟩
  · obtain ⟨p, hp, rfl⟩ := List.mem_map.mp m
    unfold lams at hp
    rcases List.mem_cons.mp hp with rfl | hp
    · exact ⟨"first_of_shape", _, r6, by dsimp only; unfold tabAt; rw [tb6]; rfl⟩
    rcases List.mem_cons.mp hp with rfl | hp
    · exact ⟨"first_shaped", _, r7, by dsimp only; unfold tabAt; rw [tb7]; rfl⟩
    rcases List.mem_cons.mp hp with rfl | hp
    · exact ⟨"way_past", _, r13, by dsimp only; unfold tabAt; rw [tb13]; rfl⟩
    rcases List.mem_cons.mp hp with rfl | hp
    · exact ⟨"first_three", _, r15, by dsimp only; unfold tabAt; rw [tb15]; rfl⟩
    rcases List.mem_cons.mp hp with rfl | hp
    · exact ⟨"interval", _, r17, by dsimp only; unfold tabAt; rw [tb17]; rfl⟩
    · cases hp
  · have ct : Ct (TTof lams K) mg base := ⟨one_of ndT, bm⟩
    exact ok_interval ct ⟨D17, cc17, Pt17, e17, hcd _ (tabs_mem (st := s_interval) (by unfold lams; simp) tb17), tt_mem (by unfold lams; simp) tb17⟩ D1 D0 D9 D8 ⟨D7, cc7, Pt7, e7, hcd _ (tabs_mem (st := s_first_shaped) (by unfold lams; simp) tb7), tt_mem (by unfold lams; simp) tb7⟩ ⟨D6, cc6, Pt6, e6, hcd _ (tabs_mem (st := s_first_of_shape) (by unfold lams; simp) tb6), tt_mem (by unfold lams; simp) tb6⟩ D4 D5 ⟨D15, cc15, Pt15, e15, hcd _ (tabs_mem (st := s_first_three) (by unfold lams; simp) tb15), tt_mem (by unfold lams; simp) tb15⟩ D14 ⟨D13, cc13, Pt13, e13, hcd _ (tabs_mem (st := s_way_past) (by unfold lams; simp) tb13), tt_mem (by unfold lams; simp) tb13⟩ D12 D3 D2 D11 D10 D16 B (PySem.W.mg_of X G m_MOST_NODES)
end Gp
open PySem PySem.W PyProof.Rows
set_option maxRecDepth 100000 in
set_option maxHeartbeats 0 in
theorem PySem.Challenge.cw_goodkinds_s07_interval_holds : PySem.Challenge.rw_goodkinds_s07_interval.Holds := by
  w_on; k_headS; (case hw => exact ⟨[.list []], by decide +kernel, by decide +kernel⟩)
  k_fillS
  refine L2.walk_specT (r := PySem.Challenge.rw_goodkinds_s07_interval) (k := 10) (ps := ["graph"]) (sp := fun K => Gp.spInterval (L2.TTof Gp.lams K) K) (tabs := L2.tabsOf Gp.lams) (by decide +kernel) rfl rfl ⟨rfl, by decide, by decide⟩ (fun w h Y => PySem.W.kIn_of Y) ?F ?S
  case F =>
    intro w mg fa h Y KX G hmg
    refine' Gp.all_mk KX G hmg ?a0 ?l0 ?c0 ?k0 ?a1 ?l1 ?c1 ?k1 ?a2 ?l2 ?c2 ?k2 ?a3 ?l3 ?c3 ?k3 ?a4 ?l4 ?c4 ?k4 ?a5 ?l5 ?c5 ?k5 ?a6 ?l6 ?c6 ?k6 ?a7 ?l7 ?c7 ?k7 ?a8 ?l8 ?c8 ?k8 ?a9 ?l9 ?c9 ?k9 ?a10 ?l10 ?c10 ?k10 ?a11 ?l11 ?c11 ?k11 ?a12 ?l12 ?c12 ?k12 ?a13 ?l13 ?c13 ?k13 ?a14 ?l14 ?c14 ?k14 ?a15 ?l15 ?c15 ?k15 ?a16 ?l16 ?c16 ?k16 ?a17 ?l17 ?c17 ?k17 ?e6 ?x6 ?v6 ?r6 ?e7 ?x7 ?v7 ?r7 ?e13 ?x13 ?v13 ?r13 ?e15 ?x15 ?v15 ?r15 ?e17 ?x17 ?v17 ?r17 ?nd ?nt ?z_len ?z_range ?z_any ?z_min ?z_list ?z_sum ?z_all ?z_max ?z_sorted ?z_reversed ?z_tuple ?m_MOST_NODES
    (case a0 => k_is)
    (case l0 => k_is)
    (case c0 => k_is)
    (case k0 => k_is)
    (case a1 => k_is)
    (case l1 => k_is)
    (case c1 => k_is)
    (case k1 => k_is)
    (case a2 => k_is)
    (case l2 => k_is)
    (case c2 => k_is)
    (case k2 => k_is)
    (case a3 => k_is)
    (case l3 => k_is)
    (case c3 => k_is)
    (case k3 => k_is)
    (case a4 => k_is)
    (case l4 => k_is)
    (case c4 => k_is)
    (case k4 => k_is)
    (case a5 => k_is)
    (case l5 => k_is)
    (case c5 => k_is)
    (case k5 => k_is)
    (case a6 => k_is)
    (case l6 => k_is)
    (case c6 => k_is)
    (case k6 => k_is)
    (case a7 => k_is)
    (case l7 => k_is)
    (case c7 => k_is)
    (case k7 => k_is)
    (case a8 => k_is)
    (case l8 => k_is)
    (case c8 => k_is)
    (case k8 => k_is)
    (case a9 => k_is)
    (case l9 => k_is)
    (case c9 => k_is)
    (case k9 => k_is)
    (case a10 => k_is)
    (case l10 => k_is)
    (case c10 => k_is)
    (case k10 => k_is)
    (case a11 => k_is)
    (case l11 => k_is)
    (case c11 => k_is)
    (case k11 => k_is)
    (case a12 => k_is)
    (case l12 => k_is)
    (case c12 => k_is)
    (case k12 => k_is)
    (case a13 => k_is)
    (case l13 => k_is)
    (case c13 => k_is)
    (case k13 => k_is)
    (case a14 => k_is)
    (case l14 => k_is)
    (case c14 => k_is)
    (case k14 => k_is)
    (case a15 => k_is)
    (case l15 => k_is)
    (case c15 => k_is)
    (case k15 => k_is)
    (case a16 => k_is)
    (case l16 => k_is)
    (case c16 => k_is)
    (case k16 => k_is)
    (case a17 => k_is)
    (case l17 => k_is)
    (case c17 => k_is)
    (case k17 => k_is)
    (case e6 => rfl)
    (case x6 => k_is)
    (case v6 => rfl)
    (case r6 => rfl)
    (case e7 => rfl)
    (case x7 => k_is)
    (case v7 => rfl)
    (case r7 => rfl)
    (case e13 => rfl)
    (case x13 => k_is)
    (case v13 => rfl)
    (case r13 => rfl)
    (case e15 => rfl)
    (case x15 => k_is)
    (case v15 => rfl)
    (case r15 => rfl)
    (case e17 => rfl)
    (case x17 => k_is)
    (case v17 => rfl)
    (case r17 => rfl)
    (case nd => decide)
    (case nt => kernel_rfl)
    (case z_len => k_is)
    (case z_range => k_is)
    (case z_any => k_is)
    (case z_min => k_is)
    (case z_list => k_is)
    (case z_sum => k_is)
    (case z_all => k_is)
    (case z_max => k_is)
    (case z_sorted => k_is)
    (case z_reversed => k_is)
    (case z_tuple => k_is)
    (case m_MOST_NODES => k_is)
  case S =>
    intro K H xs a hT hwi hask hx
    cases hx with
    | cons h1 h2 =>
      cases h2
      cases h1 with
      | lst hs ha =>
        have e := L2.ints_dw a.1 _ ha
        subst e
        have q : ((Codec.inLen 0 12 a.1 && a.1.all (Codec.inInt 0 4294967295)) && true) = true := hwi
        rw [Bool.and_eq_true, Bool.and_eq_true] at q
        have hl := (Codec.inNat_iff.mp q.1.1).2
        have hn : ∀ x ∈ a.1, (0 : Int) ≤ x := fun x hx => (Codec.inInt_iff.mp (List.all_eq_true.mp q.1.2 x hx)).1
        have eg := Gp.gv_graph a.1 hn
        refine ⟨_, WrgoodNeutral.graph a.1, rfl, by rw [eg]; exact hs, by unfold WrgoodNeutral.graph; rw [List.length_map]; exact hl, L2.tb_of hT, fun H' p hp => ?_⟩
        refine .lst (L2.SqL.of (show H' p = some (.lst ((PyWrgood.interval a.1).map L2.V.int)) from ?_)) (L2.dw_ints _)
        rw [Gm.interval_eq]
        exact hp
#print axioms PySem.Challenge.cw_goodkinds_s07_interval_holds
