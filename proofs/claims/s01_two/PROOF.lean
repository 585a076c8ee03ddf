import PyProof.Rows.All
import Wide.All
import OpenK.AllK
import Wide.FinOn
import PyProof.EqAt
import PyProof.EqKinds
import PyProof.TupleCall
import Open.SpecLaws
import KE.OsHead
import KE.OsGo
import KE.BitLaws
import KE.KMinKey
import KE.OsArgs
import PyWrxtbb
import PySem.Challenge.RW_wideunit_s01_two
-- CHANGE: your row's module here, as the last of these rows
set_option Elab.async false
set_option linter.all false
set_option maxRecDepth 100000
/-! THE HAND LAYER, for ints, bools, texts, own classes, lists, tuples, dicts, comprehensions, walks over dicts, enumerate, zip, reversed, texts, calls, loops. Paste it whole ahead of your own text; what your proof does not reach may be deleted. -/
namespace L2
open PySem PySem.Spec PyProof.Rows

/-- a key: an int or a str -/
abbrev Key := Sum Int Str
def keyIs : Key → Value → Bool
  | .inl k, v => Value.isInt k v
  | .inr x, v => Value.isStrOf x v
def keyH (w : World) : Key → Int
  | .inl k => hashInt k
  | .inr x => hashStr w x
theorem keyIs_shape : ∀ {k : Key} {v : Value}, keyIs k v = true → (∃ i t, k = Sum.inl i ∧ v = Value.int i t) ∨ (∃ x t, k = Sum.inr x ∧ v = Value.str x t)
  | .inl i, v, h => by
    obtain ⟨t, e⟩ := Value.isInt_shape (k := i) (v := v) h
    exact .inl ⟨i, t, rfl, e⟩
  | .inr x, v, h => by
    obtain ⟨t, e⟩ := Value.isStrOf_shape (x := x) (v := v) h
    exact .inr ⟨x, t, rfl, e⟩
theorem key_ll (a b : Int) : decide ((Sum.inl a : Key) = Sum.inl b) = (a == b) := by
  by_cases e : a = b
  · subst e; simp
  · have h : ¬ (Sum.inl a : Key) = Sum.inl b := fun q => e (Sum.inl.inj q)
    rw [decide_eq_false h]
    exact (beq_eq_false_iff_ne.mpr e).symm
theorem key_rr (a b : Str) : decide ((Sum.inr a : Key) = Sum.inr b) = decide (a = b) := by
  by_cases e : a = b
  · subst e; simp
  · have h : ¬ (Sum.inr a : Key) = Sum.inr b := fun q => e (Sum.inr.inj q)
    rw [decide_eq_false h, decide_eq_false e]
theorem key_lr (a : Int) (b : Str) : decide ((Sum.inl a : Key) = Sum.inr b) = false := decide_eq_false (fun q => nomatch q)
theorem key_rl (a : Str) (b : Int) : decide ((Sum.inr a : Key) = Sum.inl b) = false := decide_eq_false (fun q => nomatch q)

def mixKind (prog : Program) (w : World) : PySem.KeyKind prog w Key where
  is := keyIs
  hash := keyH w
  inj := fun v a b ha hb => by
    rcases keyIs_shape ha with ⟨i, t, rfl, rfl⟩ | ⟨x, t, rfl, rfl⟩
    · rcases keyIs_shape hb with ⟨j, u, rfl, e⟩ | ⟨y, u, rfl, e⟩
      · injection e with e1 _; rw [e1]
      · exact nomatch e
    · rcases keyIs_shape hb with ⟨j, u, rfl, e⟩ | ⟨y, u, rfl, e⟩
      · exact nomatch e
      · injection e with e1 _; rw [e1]
  byValue := fun k v h => by
    rcases keyIs_shape h with ⟨i, t, rfl, rfl⟩ | ⟨x, t, rfl, rfl⟩ <;> rfl
  pyHash := fun hv h => by
    rcases keyIs_shape hv with ⟨i, t, rfl, rfl⟩ | ⟨x, t, rfl, rfl⟩
    · exact wpAny_pyHash_int h
    · exact wpAny_pyHash_str h
  eqBool := fun hu hv h => by
    rcases keyIs_shape hu with ⟨i, t, rfl, rfl⟩ | ⟨x, t, rfl, rfl⟩
    · rcases keyIs_shape hv with ⟨j, u, rfl, rfl⟩ | ⟨y, u, rfl, rfl⟩
      · rw [key_ll] at h; exact wpAny_eqBool_int h
      · rw [key_lr] at h; exact SeqAt.EqAt.int_str i t y u _ _ _ _ h
    · rcases keyIs_shape hv with ⟨j, u, rfl, rfl⟩ | ⟨y, u, rfl, rfl⟩
      · rw [key_rl] at h; exact SeqAt.EqAt.str_int x t j u _ _ _ _ h
      · rw [key_rr] at h; exact wpAny_eqBool_str h
  «strs» := fun k x t v h => by
    rcases keyIs_shape h with ⟨i, u, rfl, e⟩ | ⟨y, u, rfl, e⟩
    · exact nomatch e
    · injection e with e1 _
      subst e1
      cases v <;> rfl

end L2

namespace L2
open PySem PySem.Spec PyProof.Rows

/-- a value, without the heap -/
inductive V where
  | non | bl (b : Bool) | int (i : Int) | str (x : Str) | byt (b : Array UInt8) | flt (b : UInt64) | ref (a : Addr) | ty (n : String)
  deriving DecidableEq

def RelV : V → Value → Prop
  | .non, u => u = Value.none
  | .bl b, u => u = Value.bool b
  | .int i, u => ∃ t, u = Value.int i t
  | .str x, u => ∃ t, u = Value.str x t
  | .byt b, u => ∃ t, u = Value.bytes b t
  | .flt b, u => ∃ t, u = Value.float b t
  | .ref a, u => u = Value.ref a
  | .ty n, u => u = Value.type n

abbrev Vals : List V → List Value → Prop := Paired RelV
theorem Vals.length {xs : List V} {us : List Value} (r : Vals xs us) : xs.length = us.length := Paired.length r
theorem Vals.get : ∀ {xs : List V} {us : List Value} {i : Nat} {x : V}, Vals xs us → xs[i]? = some x → ∃ u, us[i]? = some u ∧ RelV x u
  | _, _, _, _, .nil, e => by simp at e
  | _, _, 0, _, .cons r _, e => by simp at e; subst e; exact ⟨_, rfl, r⟩
  | _, _, i + 1, x, .cons _ t, e => by
    obtain ⟨u, h1, h2⟩ := Vals.get (i := i) (x := x) t (by simpa using e)
    exact ⟨u, by simpa using h1, h2⟩
theorem Vals.append : ∀ {xs ys : List V} {us ws : List Value}, Vals xs us → Vals ys ws → Vals (xs ++ ys) (us ++ ws)
  | _, _, _, _, .nil, s => s
  | _, _, _, _, .cons r t, s => .cons r (Vals.append t s)
theorem Vals.take : ∀ {xs : List V} {us : List Value} (n : Nat), Vals xs us → Vals (xs.take n) (us.take n)
  | _, _, 0, _ => .nil
  | _, _, _ + 1, .nil => .nil
  | _, _, n + 1, .cons r t => .cons r (Vals.take n t)
theorem Vals.drop : ∀ {xs : List V} {us : List Value} (n : Nat), Vals xs us → Vals (xs.drop n) (us.drop n)
  | _, _, 0, r => r
  | _, _, _ + 1, .nil => .nil
  | _, _, n + 1, .cons _ t => Vals.drop n t
def RelO : Option V → Option Value → Prop
  | some v, some u => RelV v u
  | none, none => True
  | _, _ => False
def KV {κ : Type} : List (κ × V) → List (κ × Value) → Prop := Paired fun (p : κ × V) (q : κ × Value) => p.1 = q.1 ∧ RelV p.2 q.2

/-- a key of a dict (00_mix): an int or a text -/
def kV : Key → V
  | .inl i => .int i
  | .inr x => .str x

/-- what stands at a tracked address -/
inductive HO where
  /-- a list -/
  | lst (xs : List V)
  /-- a tuple (never changes) -/
  | tup (xs : List V)
  /-- a dict whose keys are ints and texts; one whose keys are tuples of ints and texts (the empty one is both) -/
  | dK (kvs : List (Key × V)) | dT (kvs : List (List Key × V))
  /-- a set of ints: its members, its size -/
  | set (S : Int → Bool) (n : Nat)
  /-- an instance of the class at C, its dict at dx, its attributes -/
  | ins (C dx : Addr) (fs : List (Str × V))
  /-- the dict of the instance at x -/
  | own (x : Addr)
  /-- the dict of an exception -/
  | xd (fs : List (Str × V))
  /-- a bound method, f of x -/
  | met (f x : Addr)
  /-- a range object lo, lo + 1, .. below hi -/
  | rng (lo hi : Int)
  /-- a thing that is known to the object (the script; a dict while a loop walks it): read, never written while it is so -/
  | frz (o : Obj) (u : HO)
  /-- a code object's table -/
  | tbl (ps : Array Value)
  /-- any other thing, by what is true of its one object (a def of one's own: SetO a S n := HO.ext fun h => ..) -/
  | ext (φ : Heap → Prop)

abbrev Hp := Addr → Option HO
def upd (H : Hp) (a : Addr) (o : HO) : Hp := fun b => if b = a then some o else H b
theorem upd_same {H : Hp} {a : Addr} {o : HO} : upd H a o a = some o := by unfold upd; rw [if_pos rfl]
theorem upd_ne {H : Hp} {a b : Addr} {o : HO} (h : b ≠ a) : upd H a o b = H b := by unfold upd; rw [if_neg h]
theorem ne_of_none {H : Hp} {a b : Addr} {o : HO} (h : H a = some o) (h' : H b = none) : a ≠ b := by
  intro e; subst e; rw [h] at h'; cases h'

section
variable (P : Program) (w : World)
def ObjOk (H : Hp) (h : Heap) (a : Addr) : HO → Prop
  | .lst xs => xs.length ≤ sizeLine ∧ ∃ (its : List Value) (n : Nat), Vals xs its ∧ h.get? a = some { cls := .type "list", data := .seq its.toArray n }
  | .tup xs => xs.length ≤ sizeLine ∧ ∃ its : List Value, Vals xs its ∧ IsTup h a its.toArray
  | .dK kvs => kvs.length ≤ sizeLine ∧ (a == sysModules) = false ∧ ∃ vs, KV kvs vs ∧ h.DictOf (mixKind P w) a vs
  | .dT kvs => kvs.length ≤ sizeLine ∧ (a == sysModules) = false ∧ ∃ xs : List (List Key × Addr × Value),
      Paired (fun (p : List Key × V) (q : List Key × Addr × Value) => p.1 = q.1 ∧ H q.2.1 = some (.tup (p.1.map kV)) ∧ RelV p.2 q.2.2) kvs xs ∧
      ∃ o es ep, h.get? a = some o ∧ o.ExactDict ∧ o.data = .dict es ep ∧ es.toList = xs.map (entryOfKey (tupleKind (mixKind P w))) ∧ (xs.map (·.1)).Nodup
  | .set S n => h.SetOf (intKind P w) a S n
  | .ins C dx fs => H dx = some (.own a) ∧ fs.length ≤ 1000 ∧ dx ≠ a ∧ h.get? a = some (PySem.W.instObj C dx) ∧
      ∃ mA, h.Ns1 dx mA ∧ (∀ f, RelO (fs.lookup f) (mA f)) ∧ PySem.Within mA (fs.map (·.1))
  | .own _ => ∃ o, h.get? a = some o
  | .xd fs => ∃ mA, h.Ns1 a mA ∧ ∀ f, RelO (fs.lookup f) (mA f)
  | .rng lo hi => ∃ t u v, h.get? a = some { cls := .type "range", data := .fields #[.int lo t, .int hi u, .int 1 v] }
  | .frz o u => h.get? a = some o ∧ ObjOk H h a u
  | .tbl ps => h.get? a = some { cls := .none, data := .fields ps }
  | .met f x => h.get? a = some (PySem.W.methodObj (.ref f) (.ref x))
  | .ext φ => φ h ∧ (∃ o, h.get? a = some o) ∧ ∀ h1 h2 : Heap, φ h1 → (∀ o, h1.get? a = some o → h2.get? a = some o) → φ h2
/-- the abstract heap is held -/
def HOk (H : Hp) (h : Heap) : Prop := ∀ a o, H a = some o → ObjOk P w H h a o
end

section
variable {P : Program} {w : World} {H H' : Hp} {h h' : Heap} {a : Addr} {o : HO}
theorem ObjOk.lt (x : ObjOk P w H h a o) : a < h.objs.size := by
  cases o with
  | lst xs => obtain ⟨_, _, _, _, e⟩ := x; exact Heap.lt_size e
  | tup xs => obtain ⟨_, _, _, p⟩ := x; exact p.lt
  | dK kvs => obtain ⟨_, _, _, _, o, _, _, e, _⟩ := x; exact Heap.lt_size e
  | dT kvs => obtain ⟨_, _, _, _, o, _, _, e, _⟩ := x; exact Heap.lt_size e
  | set S n => obtain ⟨o, _, _, _, e, _⟩ := x; exact Heap.lt_size e
  | ins C dx fs => obtain ⟨_, _, _, e, _⟩ := x; exact Heap.lt_size e
  | own y => obtain ⟨_, e⟩ := x; exact Heap.lt_size e
  | xd fs => obtain ⟨_, ⟨_, _, _, e, _⟩, _⟩ := x; exact Heap.lt_size e
  | rng lo hi => obtain ⟨_, _, _, e⟩ := x; exact Heap.lt_size e
  | frz ob u => obtain ⟨e, _⟩ := x; exact Heap.lt_size e
  | tbl ps => exact Heap.lt_size (show h.get? a = some _ from x)
  | met f y => exact Heap.lt_size (show h.get? a = some _ from x)
  | ext φ => obtain ⟨_, ⟨_, e⟩, _⟩ := x; exact Heap.lt_size e
theorem Paired.mapP {α β : Type} {F G : α → β → Prop} : ∀ {l₁ : List α} {l₂ : List β}, Paired F l₁ l₂ → (∀ a b, F a b → G a b) → Paired G l₁ l₂
  | _, _, .nil, _ => .nil
  | _, _, .cons r t, f => .cons (f _ _ r) (Paired.mapP t f)
/-- what an object's description leans on: its own object, its own dict, the tuples -/
theorem ObjOk.stay (x : ObjOk P w H h a o) (k : ∀ b u, (b = a ∨ H b = some (.own a)) → h.get? b = some u → h'.get? b = some u)
    (ho : ∀ b, H b = some (.own a) → H' b = some (.own a)) (ht : ∀ b xs, H b = some (.tup xs) → H' b = some (.tup xs)) : ObjOk P w H' h' a o := by
  induction o with
  | lst xs => obtain ⟨z, its, n, r, e⟩ := x; exact ⟨z, its, n, r, k _ _ (.inl rfl) e⟩
  | tup xs => obtain ⟨z, its, r, ob, e, c⟩ := x; exact ⟨z, its, r, ob, k _ _ (.inl rfl) e, c⟩
  | dK kvs => obtain ⟨z, y, vs, r, ob, es, ep, e, c⟩ := x; exact ⟨z, y, vs, r, ob, es, ep, k _ _ (.inl rfl) e, c⟩
  | dT kvs =>
    obtain ⟨z, y, xs, r, ob, es, ep, e, c⟩ := x
    exact ⟨z, y, xs, Paired.mapP r fun p q z => ⟨z.1, ht _ _ z.2.1, z.2.2⟩, ob, es, ep, k _ _ (.inl rfl) e, c⟩
  | set S n => obtain ⟨ob, es, ep, t, e, c⟩ := x; exact ⟨ob, es, ep, t, k _ _ (.inl rfl) e, c⟩
  | ins C dx fs =>
    obtain ⟨d, z, ne, e, mA, ⟨od, es, ep, e2, c⟩, r⟩ := x
    exact ⟨ho _ d, z, ne, k _ _ (.inl rfl) e, mA, ⟨od, es, ep, k _ _ (.inr d) e2, c⟩, r⟩
  | own y => obtain ⟨ob, e⟩ := x; exact ⟨ob, k _ _ (.inl rfl) e⟩
  | xd fs => obtain ⟨mA, ⟨od, es, ep, e, c⟩, r⟩ := x; exact ⟨mA, ⟨od, es, ep, k _ _ (.inl rfl) e, c⟩, r⟩
  | rng lo hi => obtain ⟨t, u, v, e⟩ := x; exact ⟨t, u, v, k _ _ (.inl rfl) e⟩
  | frz ob u ih => obtain ⟨e, q⟩ := x; exact ⟨k _ _ (.inl rfl) e, ih q⟩
  | tbl ps =>
    have e : h.get? a = some { cls := .none, data := .fields ps } := x
    show h'.get? a = some { cls := .none, data := .fields ps }
    exact k a _ (.inl rfl) e
  | met f y =>
    have e : h.get? a = some (PySem.W.methodObj (.ref f) (.ref y)) := x
    show h'.get? a = some (PySem.W.methodObj (.ref f) (.ref y))
    exact k a _ (.inl rfl) e
  | ext φ => obtain ⟨p, ⟨o, e⟩, st⟩ := x; exact ⟨st _ _ p fun o q => k _ _ (.inl rfl) q, ⟨o, k _ _ (.inl rfl) e⟩, st⟩
theorem HOk.lt (x : HOk P w H h) (e : H a = some o) : a < h.objs.size := (x a o e).lt
theorem HOk.fresh (x : HOk P w H h) (e : h.objs.size ≤ a) : H a = none := by
  cases q : H a with
  | none => rfl
  | some u => exact absurd (Nat.lt_of_lt_of_le (x.lt q) e) (Nat.lt_irrefl _)
/-- every object of the heap is kept -/
theorem HOk.kept (x : HOk P w H h) (k : ∀ b u, h.get? b = some u → h'.get? b = some u) : HOk P w H h' := fun a o e =>
  (x a o e).stay (fun b u _ q => k b u q) (fun _ q => q) fun _ _ q => q
/-- a new object is laid and tracked -/
theorem HOk.laid (x : HOk P w H h) (k : ∀ b u, h.get? b = some u → h'.get? b = some u) (hp : h.objs.size ≤ a) (new : ObjOk P w (upd H a o) h' a o) : HOk P w (upd H a o) h' := fun b u e => by
  have hn := x.fresh hp
  by_cases hb : b = a
  · subst hb; rw [upd_same] at e; cases e; exact new
  · rw [upd_ne hb] at e
    exact (x b u e).stay (fun c v _ q => k c v q) (fun c q => by rw [upd_ne (ne_of_none q hn)]; exact q) fun c xs q => by rw [upd_ne (ne_of_none q hn)]; exact q
end

/-- what may be read as u: it is u, or a known u -/
def Rd (H : Hp) (a : Addr) (u : HO) : Prop := H a = some u ∨ ∃ o, H a = some (.frz o u)
theorem Rd.ok {P : Program} {w : World} {H : Hp} {h : Heap} {a : Addr} {u : HO} (r : Rd H a u) (x : HOk P w H h) : ObjOk P w H h a u := by
  rcases r with r | ⟨o, r⟩
  · exact x a u r
  · obtain ⟨_, q⟩ := x a _ r
    exact q
/-- what may be written -/
def Mut : Option HO → Prop
  | some (.lst _) => True
  | some (.dK _) => True
  | some (.dT _) => True
  | some (.set _ _) => True
  | some (.ins _ _ _) => True
  | some (.ext _) => True
  | _ => False
section
variable {P : Program} {w : World} {H : Hp} {h h' : Heap} {x e : Addr} {o' : HO}
/-- the object at e is changed: x itself, or the dict of the instance x -/
theorem HOk.write (ok : HOk P w H h) (mu : Mut (H x)) (he : e = x ∨ H e = some (.own x)) (k : ∀ b u, b ≠ e → h.get? b = some u → h'.get? b = some u) (heo : ∃ u, h'.get? e = some u)
    (new : ObjOk P w (upd H x o') h' x o') : HOk P w (upd H x o') h' := fun b u q => by
  have nown : ∀ c y, H c = some (.own y) → c ≠ x := fun c y r z => by subst z; rw [r] at mu; exact mu
  have ntup : ∀ c xs, H c = some (.tup xs) → c ≠ x := fun c xs r z => by subst z; rw [r] at mu; exact mu
  by_cases hb : b = x
  · subst hb; rw [upd_same] at q; cases q; exact new
  · rw [upd_ne hb] at q
    by_cases hbe : b = e
    · have q' : H b = some (.own x) := by
        rcases he with z | z
        · exact absurd (hbe.trans z) hb
        · rw [hbe]; exact z
      rw [q] at q'; cases q'
      obtain ⟨v, hv⟩ := heo
      exact ⟨v, by rw [hbe]; exact hv⟩
    · refine (ok b u q).stay (fun c v hc r => k c v ?_ r) (fun c r => by rw [upd_ne (nown c b r)]; exact r) fun c xs r => by rw [upd_ne (ntup c xs r)]; exact r
      rcases hc with rfl | hc
      · exact hbe
      · rintro rfl
        rcases he with z | z
        · exact nown c b hc z
        · rw [hc] at z; cases z; exact hb rfl
end

/-! ### kept unless tracked; of the frames at fs (the callers') the slots may change (an exception that passes writes there); of the records at ex (iterators) nothing is said -/
structure Un (fs ex : List Addr) (H H' : Hp) (h h' : Heap) : Prop where
  keep : ∀ b o, h.get? b = some o → H b = none → b ∉ fs → b ∉ ex → h'.get? b = some o
  slot : ∀ b o, h.get? b = some o → H b = none → b ∈ fs → b ∉ ex → ∃ sl, h'.get? b = some { o with slots := sl }
  free : ∀ b o, h.get? b = some o → H b = none → b ∉ ex → H' b = none
  there : ∀ b o, h.get? b = some o → b ∉ ex → ∃ o', h'.get? b = some o'
  tups : ∀ b xs, H b = some (.tup xs) → H' b = some (.tup xs)
  frzs : ∀ b o u, H b = some (.frz o u) → H' b = some (.frz o u)
  tbls : ∀ b ps, H b = some (.tbl ps) → ∃ more, H' b = some (.tbl (ps ++ more))
section
variable {fs fs' ex ex' : List Addr} {H H1 H2 : Hp} {h h1 h2 h' : Heap} {a x e : Addr} {o : HO}
theorem Un.any (u : Un fs ex H H1 h h1) {b : Addr} {ob : Obj} (q : h.get? b = some ob) (n : H b = none) (hx : b ∉ ex) : ∃ sl, h1.get? b = some { ob with slots := sl } := by
  by_cases hb : b ∈ fs
  · exact u.slot b ob q n hb hx
  · exact ⟨ob.slots, u.keep b ob q n hb hx⟩
theorem Un.kept (k : ∀ b u, h.get? b = some u → h'.get? b = some u) : Un fs ex H H h h' :=
  ⟨fun b ob q _ _ _ => k b ob q, fun b ob q _ _ _ => ⟨ob.slots, k b ob q⟩, fun _ _ _ n _ => n, fun b ob q _ => ⟨ob, k b ob q⟩, fun _ _ q => q, fun _ _ _ q => q, fun _ ps q => ⟨#[], by rw [q]; simp⟩⟩
theorem Un.refl : Un fs ex H H h h := Un.kept fun _ _ q => q
theorem Un.laid (k : ∀ b u, h.get? b = some u → h'.get? b = some u) (hp : h.objs.size ≤ a) (hn : H a = none) : Un fs ex H (upd H a o) h h' where
  keep := fun b u q _ _ _ => k b u q
  slot := fun b u q _ _ _ => ⟨u.slots, k b u q⟩
  free := fun b u q n _ => by rw [upd_ne (Nat.ne_of_lt (Nat.lt_of_lt_of_le (Heap.lt_size q) hp))]; exact n
  there := fun b u q _ => ⟨u, k b u q⟩
  tups := fun b xs q => by rw [upd_ne (ne_of_none q hn)]; exact q
  frzs := fun b u xs q => by rw [upd_ne (ne_of_none q hn)]; exact q
  tbls := fun b ps q => ⟨#[], by rw [upd_ne (ne_of_none q hn), q]; simp⟩
theorem Un.write (mu : Mut (H x)) (he : e = x ∨ H e = some (.own x)) (k : ∀ b u, b ≠ e → h.get? b = some u → h'.get? b = some u) (heo : ∃ u, h'.get? e = some u) : Un fs ex H (upd H x o) h h' := by
  have hx : ∀ b, H b = none → b ≠ x := fun b n z => by subst z; rw [n] at mu; exact mu
  have hb : ∀ b, H b = none → b ≠ e := fun b n z => by
    subst z
    rcases he with r | r
    · exact hx b n r
    · rw [n] at r; cases r
  have hm : ∀ b u, H b = some u → ¬ Mut (some u) → b ≠ x := fun b u q nm z => by subst z; rw [q] at mu; exact nm mu
  refine ⟨fun b u q n _ _ => k b u (hb b n) q, fun b u q n _ _ => ⟨u.slots, k b u (hb b n) q⟩, fun b u q n _ => by rw [upd_ne (hx b n)]; exact n, fun b u q _ => ?_,
    fun b xs q => by rw [upd_ne (hm b _ q fun z => z)]; exact q, fun b u xs q => by rw [upd_ne (hm b _ q fun z => z)]; exact q, fun b ps q => ⟨#[], by rw [upd_ne (hm b _ q fun z => z), q]; simp⟩⟩
  by_cases hbe : b = e
  · subst hbe; exact heo
  · exact ⟨u, k b u hbe q⟩
end

/-! ### the heap without what is tracked -/
def trk (h : Heap) (H : Hp) : List Addr := (List.range h.objs.size).filter fun a => (H a).isSome
def hidT (h : Heap) (H : Hp) : Heap := PySem.W.hideAll h (trk h H)
theorem hidT_size (h : Heap) (H : Hp) : (hidT h H).objs.size = h.objs.size := PySem.W.hideAll_size _ _
theorem hidT_get {h : Heap} {H : Hp} {b : Addr} {o : Obj} (e : h.get? b = some o) (n : H b = none) : (hidT h H).get? b = some o :=
  PySem.W.hideAll_get _ e fun hm => by
    have q : (H b).isSome = true := (List.mem_filter.mp hm).2
    rw [n] at q; simp at q
theorem of_hidT {h : Heap} {H : Hp} {b : Addr} {o : Obj} (e : (hidT h H).get? b = some o) : h.get? b = some o ∧ H b = none := by
  have e' : h.get? b = some o := PySem.W.of_hideAll (trk h H) e
  refine ⟨e', ?_⟩
  cases q : H b with
  | none => rfl
  | some x =>
    have hm : b ∈ trk h H := List.mem_filter.mpr ⟨List.mem_range.mpr (Heap.lt_size e'), by simp [q]⟩
    have z : (hidT h H).get? b = none := PySem.W.hideAll_none (trk h H) hm
    rw [z] at e; cases e

/-! ### OpenK's ledger, filled with every new object but one -/
end L2

namespace L2
open PySem PySem.Spec PyProof.Rows

/-- the module's facts, over the base: the heap at the law's entry without what is tracked there -/
structure Mod (K : PySem.W.Frag) (mg : Str → Option Value) (base : Heap) : Prop where
  kin : K.In base
  glob : base.Ns mainGlobals mg
  blt : ∃ mb, base.Ns builtinsNs mb ∧ ∀ x : Str, x ≠ "__name__" → mb x = bootBuiltins x
  nolimit : base.NoLimit

/-- the context: a def's body (or a comprehension's block) running. base: fixed through the whole law; s₀, H₀: the entry; outer: the frames whose slots others may change (a def's callers); stack: all frames that run;
   ex: iterators that were made ahead of the entry and are walked here (a comprehension's); fn: the names whose cells were made at the entry (a def: all; a comprehension's block: its own); calm: not within an except suite; pn: pins that every state bears; xe: what is wanted of an exception that leaves the code -/
structure Cx where
  prog : Program
  w : World
  K : PySem.W.Frag
  mg : Str → Option Value
  base : Heap
  A : Around
  N : List Str
  s_0 : Shared
  H_0 : Hp
  env : Env
  outer : List Env
  stack : List Env
  ex : List Addr
  fn : Str → Bool
  calm : Bool
  pn : List (Addr × Obj)
  xe : Value → Shared → Prop
/-- the callers' frames -/
def frs (l : List Env) : List Addr := l.filterMap (·.frame)
abbrev Cx.fs (X : Cx) : List Addr := frs X.outer

def Vis (sc : Scope) (x : Str) : Prop := sc.names.lookup x = some .local ∨ sc.names.lookup x = some .cell ∨ sc.names.lookup x = some .free
def Loc (sc : Scope) (x : Str) : Prop := sc.names.lookup x = some .local ∨ sc.names.lookup x = some .cell
def Look (env : Env) (h : Heap) (m : Str → Option Value) (x : Str) (u : Value) : Prop :=
  (env.kindOf x = some .local ∧ m x = some u) ∨ ((env.kindOf x = some .cell ∨ env.kindOf x = some .free) ∧ ∃ c, env.cells.lookup x = some c ∧ h.IsCell c (some u))

structure Cx.Ok (X : Cx) : Prop where
  mod : Mod X.K X.mg X.base
  kind : X.env.scope.kind = .function
  glob : X.env.globals = mainGlobals
  blt : X.env.builtins = builtinsNs
  above : X.s_0.heap.objs.size ≤ X.env.locals
  inj : ∀ x y c, X.env.cells.lookup x = some c → X.env.cells.lookup y = some c → x = y
  has : ∀ x, (X.env.kindOf x = some .cell ∨ X.env.kindOf x = some .free) → ∃ c, X.env.cells.lookup x = some c
  cab : ∀ x c, X.fn x = true → X.env.cells.lookup x = some c → X.s_0.heap.objs.size ≤ c
  hd : X.calm = true → X.A.handled = none
  frames : X.A.frames = some X.stack
  stk : X.stack = X.outer ∨ (X.stack = X.env :: X.outer ∧ X.env.frame = some X.env.locals)
  exf : ∀ b ∈ X.ex, b ≠ X.env.locals ∧ ∀ x c, X.env.cells.lookup x = some c → c ≠ b
  bs : ∀ b o, X.base.get? b = some o → X.s_0.heap.get? b = some o ∧ X.H_0 b = none
  bsz : X.base.objs.size ≤ X.s_0.heap.objs.size
  noex : ∀ b o, X.base.get? b = some o → b ∉ X.ex
  exfs : ∀ b ∈ X.ex, b ∉ X.fs
  funs : X.s_0.heap.FunFrames X.base X.outer
  frf : ∀ b ∈ X.fs, X.H_0 b = none

structure Inv (X : Cx) (pins : List (Addr × Obj)) (σ : List (Option V)) (H : Hp) (s : Shared) : Prop where
  ok : X.Ok
  os : s.os = X.s_0.os
  bare : AllBare s.gens
  base : Un X.fs X.ex X.H_0 H X.s_0.heap s.heap
  loc : ∃ m, s.heap.Ns X.env.locals m ∧ ∀ (i : Nat) (x : Str) (v : V), X.N[i]? = some x → σ[i]? = some (some v) → Vis X.env.scope x → ∃ u, RelV v u ∧ Look X.env s.heap m x u
  cell : ∀ x c, X.env.cells.lookup x = some c → ∃ v, s.heap.IsCell c v
  free : H X.env.locals = none
  freeC : ∀ x c, X.env.cells.lookup x = some c → H c = none
  pin : ∀ p ∈ X.pn ++ pins, s.heap.get? p.1 = some p.2 ∧ H p.1 = none ∧ p.1 ≠ X.env.locals ∧ p.1 ∉ X.fs ∧ ∀ v, p.2.data ≠ .cell v
  hok : HOk X.prog X.w H s.heap
  len : σ.length = X.N.length

section
variable {X : Cx} {pins : List (Addr × Obj)} {σ : List (Option V)} {H H' : Hp} {s : Shared} {h' : Heap}

theorem Cx.Ok.nofr (ok : X.Ok) {b : Addr} {o : Obj} (e : X.base.get? b = some o) : b ∉ X.fs := fun hb => by
  have := (ok.funs.mem hb).1
  rw [e] at this; cases this
theorem Inv.bs (I : Inv X pins σ H s) : ∀ b o, X.base.get? b = some o → s.heap.get? b = some o ∧ H b = none := fun b o e =>
  ⟨I.base.keep b o (I.ok.bs b o e).1 (I.ok.bs b o e).2 (I.ok.nofr e) (I.ok.noex b o e), I.base.free b o (I.ok.bs b o e).1 (I.ok.bs b o e).2 (I.ok.noex b o e)⟩
theorem Inv.bk (I : Inv X pins σ H s) : ∀ b o, X.base.get? b = some o → s.heap.get? b = some o := fun b o e => (I.bs b o e).1
theorem Inv.mod (I : Inv X pins σ H s) : Mod X.K X.mg X.base := I.ok.mod
theorem Inv.kIn (I : Inv X pins σ H s) : X.K.In s.heap := I.ok.mod.kin.keeps I.bk
theorem Inv.lt (I : Inv X pins σ H s) : X.env.locals < s.heap.objs.size := let ⟨_, hn, _⟩ := I.loc; hn.lt
theorem Inv.sz (I : Inv X pins σ H s) : X.s_0.heap.objs.size ≤ s.heap.objs.size := Nat.le_trans I.ok.above (Nat.le_of_lt I.lt)
theorem Inv.nofs (I : Inv X pins σ H s) {a : Addr} (h : s.heap.objs.size ≤ a) : a ∉ X.fs := fun hb => by
  obtain ⟨_, o, ho, _⟩ := I.ok.funs.mem hb
  exact absurd (Nat.lt_of_lt_of_le (Heap.lt_size ho) (Nat.le_trans I.sz h)) (Nat.lt_irrefl _)
theorem Inv.cne (I : Inv X pins σ H s) : ∀ x c, X.env.cells.lookup x = some c → c ≠ X.env.locals := fun x c e z => by
  obtain ⟨v, o, ho, hd⟩ := I.cell x c e
  obtain ⟨m, ⟨o', es, ep, ho', hd', _⟩, _⟩ := I.loc
  rw [z, ho'] at ho; cases ho; rw [hd'] at hd; cases hd
theorem Inv.funs (I : Inv X pins σ H s) : s.heap.FunFrames X.base X.outer := by
  have all : ∀ (l : List Env), (∀ b ∈ frs l, b ∈ X.fs) → X.s_0.heap.FunFrames X.base l → s.heap.FunFrames X.base l := by
    intro l
    induction l with
    | nil => intro _ _; trivial
    | cons env r ih =>
      intro hs hl
      obtain ⟨hk, ⟨L, o, hf, hn, ho, hd⟩, hr⟩ := hl
      have hL : L ∈ X.fs := hs L (by unfold frs; rw [List.filterMap_cons, hf]; exact List.mem_cons_self)
      obtain ⟨sl, e⟩ := I.base.slot L o ho (I.ok.frf L hL) hL fun z => I.ok.exfs L z hL
      exact ⟨hk, ⟨L, _, hf, hn, e, hd⟩, ih (fun b hb => hs b (by unfold frs; rw [List.filterMap_cons, hf]; exact List.mem_cons_of_mem _ hb)) hr⟩
  exact all X.outer (fun _ hb => hb) I.ok.funs

/-- the frames that run, for a call -/
theorem Inv.stack (I : Inv X pins σ H s) : s.heap.FunFrames X.base X.stack := by
  rcases I.ok.stk with e | ⟨e, hf⟩
  · rw [e]; exact I.funs
  · rw [e]
    obtain ⟨m, hn, _⟩ := I.loc
    refine .cons (by rw [I.ok.kind]; decide) hf hn ?_ I.funs
    exact Heap.get?_none_of_le (Nat.le_trans I.ok.bsz I.ok.above)
theorem Inv.stkSub (I : Inv X pins σ H s) : ∀ b ∈ frs X.stack, b ∈ X.env.locals :: X.fs := fun b hb => by
  rcases I.ok.stk with e | ⟨e, hf⟩
  · rw [e] at hb; exact List.mem_cons_of_mem _ hb
  · rw [e] at hb
    unfold frs at hb
    rw [List.filterMap_cons, hf] at hb
    exact hb
theorem Inv.stkFree (I : Inv X pins σ H s) : ∀ b ∈ frs X.stack, H b = none := fun b hb => by
  rcases List.mem_cons.mp (I.stkSub b hb) with e | hb
  · rw [e]; exact I.free
  · obtain ⟨_, o, ho, _⟩ := I.ok.funs.mem hb
    exact I.base.free b o ho (I.ok.frf b hb) fun z => I.ok.exfs b z hb

/-- THE STEP: the untracked objects but the frame and the records at ch are kept (the callers' frames up to slots), the frame's map is kept, the new abstract heap is held -/
theorem Inv.step {g' : Array GenState} {t' : Nat} {d' : Drawn} {ch : List Addr} (I : Inv X pins σ H s)
    (hch : ∀ b ∈ ch, (b ∈ X.ex ∨ X.s_0.heap.objs.size ≤ b) ∧ b ≠ X.env.locals ∧ (∀ x c, X.env.cells.lookup x = some c → c ≠ b) ∧ ∀ p ∈ X.pn ++ pins, p.1 ≠ b)
    (keep : ∀ b o, b ≠ X.env.locals → b ∉ X.fs → b ∉ ch → s.heap.get? b = some o → H b = none → h'.get? b = some o)
    (slot : ∀ b o, b ≠ X.env.locals → b ∈ X.fs → b ∉ ch → s.heap.get? b = some o → H b = none → ∃ sl, h'.get? b = some { o with slots := sl }) (free : ∀ b o, b ∉ ch → s.heap.get? b = some o → H b = none → H' b = none)
    (there : ∀ b o, b ∉ ch → s.heap.get? b = some o → ∃ o', h'.get? b = some o')
    (tups : ∀ b xs, H b = some (.tup xs) → H' b = some (.tup xs)) (frzs : ∀ b o u, H b = some (.frz o u) → H' b = some (.frz o u)) (tbls : ∀ b ps, H b = some (.tbl ps) → ∃ more, H' b = some (.tbl (ps ++ more)))
    (ns : ∀ m, s.heap.Ns X.env.locals m → h'.Ns X.env.locals m) (hok : HOk X.prog X.w H' h') (hg : AllBare g') :
    Inv X pins σ H' { s with heap := h', gens := g', drawn := d', toks := t' } := by
  have neL : ∀ b o, X.s_0.heap.get? b = some o → b ≠ X.env.locals := fun b o e => Nat.ne_of_lt (Nat.lt_of_lt_of_le (Heap.lt_size e) I.ok.above)
  have neC : ∀ b o, X.s_0.heap.get? b = some o → b ∉ X.ex → b ∉ ch := fun b o e hx hb => by
    rcases (hch b hb).1 with z | z
    · exact hx z
    · exact absurd (Nat.lt_of_lt_of_le (Heap.lt_size e) z) (Nat.lt_irrefl _)
  have cellK : ∀ x c, X.env.cells.lookup x = some c → ∀ v, s.heap.IsCell c v → h'.IsCell c v := fun x c e v ⟨o, ho, hd⟩ => by
    have nch : c ∉ ch := fun z => (hch c z).2.2.1 x c e rfl
    by_cases hc : c ∈ X.fs
    · obtain ⟨sl, q⟩ := slot c o (I.cne x c e) hc nch ho (I.freeC x c e)
      exact ⟨_, q, hd⟩
    · exact ⟨o, keep c o (I.cne x c e) hc nch ho (I.freeC x c e), hd⟩
  refine ⟨I.ok, I.os, hg, ⟨fun b o e n hb hx => ?_, fun b o e n hb hx => ?_, fun b o e n hx => ?_, fun b o e hx => ?_, fun b xs e => tups b xs (I.base.tups b xs e), fun b o xs e => frzs b o xs (I.base.frzs b o xs e), fun b ps e => ?_⟩, ?_, fun x c e => ?_, ?_, fun x c e => ?_, fun p hp => ?_, hok, I.len⟩
  · exact keep b o (neL b o e) hb (neC b o e hx) (I.base.keep b o e n hb hx) (I.base.free b o e n hx)
  · obtain ⟨sl, e1⟩ := I.base.slot b o e n hb hx
    obtain ⟨sl', e2⟩ := slot b _ (neL b o e) hb (neC b o e hx) e1 (I.base.free b o e n hx)
    exact ⟨sl', e2⟩
  · obtain ⟨o', e1⟩ := I.base.there b o e hx
    exact free b o' (neC b o e hx) e1 (I.base.free b o e n hx)
  · obtain ⟨o', e1⟩ := I.base.there b o e hx
    exact there b o' (neC b o e hx) e1
  · obtain ⟨m1, e1⟩ := I.base.tbls b ps e
    obtain ⟨m2, e2⟩ := tbls b _ e1
    exact ⟨m1 ++ m2, by rw [e2, Array.append_assoc]⟩
  · obtain ⟨m, hn, hl⟩ := I.loc
    refine ⟨m, ns m hn, fun i x v e1 e2 e3 => ?_⟩
    obtain ⟨u, r, l⟩ := hl i x v e1 e2 e3
    refine ⟨u, r, ?_⟩
    rcases l with l | ⟨k, c, e, z⟩
    · exact .inl l
    · exact .inr ⟨k, c, e, cellK x c e _ z⟩
  · obtain ⟨v, z⟩ := I.cell x c e
    exact ⟨v, cellK x c e v z⟩
  · obtain ⟨m, ⟨o, _, _, ho, _⟩, _⟩ := I.loc
    exact free _ o (fun z => (hch _ z).2.1 rfl) ho I.free
  · obtain ⟨v, o, ho, hd⟩ := I.cell x c e
    exact free c o (fun z => (hch c z).2.2.1 x c e rfl) ho (I.freeC x c e)
  · obtain ⟨e, n, ne, nf, d⟩ := I.pin p hp
    have nch : p.1 ∉ ch := fun z => (hch p.1 z).2.2.2 p hp rfl
    exact ⟨keep p.1 p.2 ne nf nch e n, free p.1 p.2 nch e n, ne, nf, d⟩
/-- .. where the frame's own object is kept too -/
theorem Inv.un {t' : Nat} (I : Inv X pins σ H s) (u : Un X.fs [] H H' s.heap h') (hok : HOk X.prog X.w H' h') : Inv X pins σ H' { s with heap := h', toks := t' } := by
  obtain ⟨m, ⟨o, es, ep, ho, r⟩, _⟩ := id I.loc
  obtain ⟨sl, hL⟩ := u.any ho I.free (by simp)
  exact I.step (g' := s.gens) (d' := s.drawn) (ch := []) (fun _ z => nomatch z) (fun b o _ hb _ e n => u.keep b o e n hb (by simp)) (fun b o _ hb _ e n => u.slot b o e n hb (by simp)) (fun b o _ e n => u.free b o e n (by simp)) (fun b o _ e => u.there b o e (by simp)) u.tups u.frzs u.tbls (fun m' hm => by
    obtain ⟨o', es', ep', ho', r'⟩ := hm
    rw [ho] at ho'; cases ho'
    exact ⟨_, es', ep', hL, r'⟩) hok I.bare
/-- behind a call (or a comprehension's block): the slots of this frame may have changed too, the records at ch may have turned -/
theorem Inv.call {g' : Array GenState} {t' : Nat} {d' : Drawn} {ch : List Addr} (I : Inv X pins σ H s) (u : Un (frs X.stack) ch H H' s.heap h') (hok : HOk X.prog X.w H' h') (hg : AllBare g')
    (hch : ∀ b ∈ ch, (b ∈ X.ex ∨ X.s_0.heap.objs.size ≤ b) ∧ b ≠ X.env.locals ∧ (∀ x c, X.env.cells.lookup x = some c → c ≠ b) ∧ ∀ p ∈ X.pn ++ pins, p.1 ≠ b) :
    Inv X pins σ H' { s with heap := h', gens := g', drawn := d', toks := t' } := by
  obtain ⟨m, ⟨o, es, ep, ho, r⟩, _⟩ := id I.loc
  obtain ⟨sl, hL⟩ := u.any ho I.free fun z => (hch _ z).2.1 rfl
  exact I.step (ch := ch) hch (fun b o hL hb hc e n => u.keep b o e n (fun z => (List.mem_cons.mp (I.stkSub b z)).elim hL hb) hc) (fun b o _ _ hc e n => u.any e n hc) (fun b o hc e n => u.free b o e n hc) (fun b o hc e => u.there b o e hc) u.tups u.frzs u.tbls (fun m' hm => by
    obtain ⟨o', es', ep', ho', r'⟩ := hm
    rw [ho] at ho'; cases ho'
    exact ⟨_, es', ep', hL, r'⟩) hok hg
/-- an untracked record of ours (an iterator) has turned -/
theorem Inv.turned {t' : Nat} {it : Addr} (I : Inv X pins σ H s) (k : ∀ b o, b ≠ it → s.heap.get? b = some o → h'.get? b = some o) (hn : H it = none) (hL : it ≠ X.env.locals)
    (h1 : it ∈ X.ex ∨ X.s_0.heap.objs.size ≤ it) (h2 : ∀ x c, X.env.cells.lookup x = some c → c ≠ it) (h3 : ∀ p ∈ X.pn ++ pins, p.1 ≠ it) : Inv X pins σ H { s with heap := h', toks := t' } := by
  have nit : ∀ b u, H b = some u → b ≠ it := fun b u e z => by rw [z, hn] at e; cases e
  refine I.step (g' := s.gens) (d' := s.drawn) (ch := [it]) (fun b hb => ?_) (fun b o _ _ hc e _ => k b o (fun z => hc (by simp [z])) e) (fun b o _ _ hc e _ => ⟨o.slots, k b o (fun z => hc (by simp [z])) e⟩) (fun _ _ _ _ n => n)
    (fun b o hc e => ⟨o, k b o (fun z => hc (by simp [z])) e⟩) (fun _ _ e => e) (fun _ _ _ e => e) (fun b ps e => ⟨#[], by rw [e]; simp⟩) (fun m hm => ?_) (fun b u e => ?_) I.bare
  · have e : b = it := by simpa using hb
    subst e
    exact ⟨h1, hL, h2, h3⟩
  · obtain ⟨o, es, ep, ho, r⟩ := hm
    exact ⟨o, es, ep, k _ o (Ne.symm hL) ho, r⟩
  · refine (I.hok b u e).stay (fun c v hc q => k c v ?_ q) (fun _ q => q) fun _ _ q => q
    rcases hc with z | z
    · rw [z]; exact nit b u e
    · exact nit c _ z
theorem Inv.tok (I : Inv X pins σ H s) (t : Nat) : Inv X pins σ H { s with toks := t } := I.un (h' := s.heap) (t' := t) Un.refl I.hok
/-- all objects kept -/
theorem Inv.kept {t' : Nat} (I : Inv X pins σ H s) (k : ∀ b u, s.heap.get? b = some u → h'.get? b = some u) : Inv X pins σ H { s with heap := h', toks := t' } := I.un (Un.kept k) (I.hok.kept k)
/-- a new object laid and tracked -/
theorem Inv.laid {a : Addr} {o : HO} {t' : Nat} (I : Inv X pins σ H s) (k : ∀ b u, s.heap.get? b = some u → h'.get? b = some u) (hp : s.heap.objs.size ≤ a) (new : ObjOk X.prog X.w (upd H a o) h' a o) :
    Inv X pins σ (upd H a o) { s with heap := h', toks := t' } := I.un (Un.laid k hp (I.hok.fresh hp)) (I.hok.laid k hp new)
/-- an object written -/
theorem Inv.write {x e : Addr} {o : HO} {t' : Nat} (I : Inv X pins σ H s) (mu : Mut (H x)) (he : e = x ∨ H e = some (.own x)) (k : ∀ b u, b ≠ e → s.heap.get? b = some u → h'.get? b = some u) (heo : ∃ u, h'.get? e = some u)
    (new : ObjOk X.prog X.w (upd H x o) h' x o) : Inv X pins σ (upd H x o) { s with heap := h', toks := t' } := I.un (Un.write mu he k heo) (I.hok.write mu he k heo new)
/-- forgetting slots, pins -/
theorem Inv.weak {σ' : List (Option V)} (I : Inv X pins σ H s) (hl : σ'.length = σ.length) (w : ∀ (i : Nat) v, σ'[i]? = some (some v) → σ[i]? = some (some v)) : Inv X pins σ' H s :=
  ⟨I.ok, I.os, I.bare, I.base, let ⟨m, hn, hl'⟩ := I.loc; ⟨m, hn, fun i x v e1 e2 e3 => hl' i x v e1 (w i v e2) e3⟩, I.cell, I.free, I.freeC, I.pin, I.hok, hl.trans I.len⟩
theorem Inv.pins_of {pins' : List (Addr × Obj)} (I : Inv X pins σ H s) (h : ∀ p ∈ pins', s.heap.get? p.1 = some p.2 ∧ H p.1 = none ∧ p.1 ≠ X.env.locals ∧ p.1 ∉ X.fs ∧ ∀ v, p.2.data ≠ .cell v) : Inv X pins' σ H s :=
  ⟨I.ok, I.os, I.bare, I.base, I.loc, I.cell, I.free, I.freeC, fun p hp => (List.mem_append.mp hp).elim (fun z => I.pin p (List.mem_append_left _ z)) (h p), I.hok, I.len⟩

theorem nodup_ix {N : List Str} (hN : N.Nodup) {i j : Nat} {x : Str} (a : N[i]? = some x) (b : N[j]? = some x) : i = j := by
  obtain ⟨h1, e1⟩ := List.getElem?_eq_some_iff.mp a
  obtain ⟨h2, e2⟩ := List.getElem?_eq_some_iff.mp b
  exact (List.getElem_inj hN).mp (e1.trans e2.symm)

/-- a name is stored; what changed -/
theorem store_ok2 {M : Model} {A : Around} {E : Value → Shared → Prop} {i : Nat} {x : Str} {v : V} {u : Value} {Q : Unit → Shared → Prop} (I : Inv X pins σ H s) (hN : X.N.Nodup) (hi : X.N[i]? = some x) (hx : Loc X.env.scope x) (r : RelV v u)
    (h : ∀ s', Inv X pins (σ.set i (some v)) H s' → (∃ a, Heap.SameBut a s.heap s'.heap ∧ (a = X.env.locals ∨ X.env.cells.lookup x = some a)) → Q () s') (hf : X.fn x = true ∨ X.env.scope.names.lookup x = some .local := by first | exact .inl rfl | exact .inr rfl | assumption) : wpAny M A (storeName X.env x u) Q E s := by
  obtain ⟨m, hn, hl⟩ := id I.loc
  have hcls : (X.env.scope.kind == .class || (X.env.scope.kind == .module && X.env.locals != X.env.globals)) = false := by rw [I.ok.kind]; rfl
  have hiσ : i < σ.length := by rw [I.len]; exact (List.getElem?_eq_some_iff.mp hi).1
  have cne := I.cne
  have tracked : ∀ {a : Addr} {h' : Heap}, (∃ o, s.heap.get? a = some o ∧ H a = none) → Heap.SameBut a s.heap h' → HOk X.prog X.w H h' := fun {a h'} ha hs b ob e => by
    obtain ⟨_, _, hfree⟩ := ha
    refine (I.hok b ob e).stay (fun c w' hc q => (hs.2 c ?_).trans q) (fun _ q => q) fun _ _ q => q
    rintro rfl
    rcases hc with rfl | hc
    · rw [hfree] at e; cases e
    · rw [hfree] at hc; cases hc
  rcases hx with hk | hk
  · refine wpAny_storeName_local hk hn (fun h' hn' hs => ?_) hcls
    obtain ⟨oL, _, _, hoL, _⟩ := id hn
    refine h _ ⟨I.ok, I.os, I.bare, ⟨fun b o e n hb hx => ?_, fun b o e n hb hx => ?_, I.base.free, fun b o e hx => ?_, I.base.tups, I.base.frzs, I.base.tbls⟩, ⟨_, hn', fun j y v' e1 e2 e3 => ?_⟩, fun y c e => ?_, I.free, I.freeC, fun p hp => ?_, tracked ⟨oL, hoL, I.free⟩ hs, by simpa using I.len⟩ ⟨_, hs, .inl rfl⟩
    · exact (hs.2 b (Nat.ne_of_lt (Nat.lt_of_lt_of_le (Heap.lt_size e) I.ok.above))).trans (I.base.keep b o e n hb hx)
    · obtain ⟨sl, e1⟩ := I.base.slot b o e n hb hx
      exact ⟨sl, (hs.2 b (Nat.ne_of_lt (Nat.lt_of_lt_of_le (Heap.lt_size e) I.ok.above))).trans e1⟩
    · obtain ⟨o', e1⟩ := I.base.there b o e hx
      exact ⟨o', (hs.2 b (Nat.ne_of_lt (Nat.lt_of_lt_of_le (Heap.lt_size e) I.ok.above))).trans e1⟩
    · by_cases hj : j = i
      · subst hj
        rw [hi] at e1; cases e1
        rw [List.getElem?_set_self hiσ] at e2
        cases e2
        exact ⟨u, r, .inl ⟨hk, by simp⟩⟩
      · rw [List.getElem?_set_ne (Ne.symm hj)] at e2
        obtain ⟨u', r', q⟩ := hl j y v' e1 e2 e3
        refine ⟨u', r', ?_⟩
        rcases q with ⟨k, e⟩ | ⟨k, c, e, z⟩
        · refine .inl ⟨k, ?_⟩
          have : y ≠ x := fun e => hj (nodup_ix hN e1 (e ▸ hi))
          simp [this, e]
        · exact .inr ⟨k, c, e, z.sameBut hs (cne y c e)⟩
    · obtain ⟨w', z⟩ := I.cell y c e
      exact ⟨w', z.sameBut hs (cne y c e)⟩
    · obtain ⟨e, n, ne, nf, d⟩ := I.pin p hp
      exact ⟨(hs.2 p.1 ne).trans e, n, ne, nf, d⟩
  · have hfn : X.fn x = true := by
      rcases hf with z | z
      · exact z
      · rw [z] at hk; cases hk
    obtain ⟨c, hc⟩ := I.ok.has x (.inl hk)
    obtain ⟨w', z⟩ := I.cell x c hc
    refine wpAny_storeName_cell I.ok.kind hk hc z (fun h' hc' hs => ?_)
    obtain ⟨oc, hoc, hocd⟩ := id z
    refine h { s with heap := h' } ⟨I.ok, I.os, I.bare, ⟨fun b o e n hb hx => ?_, fun b o e n hb hx => ?_, I.base.free, fun b o e hx => ?_, I.base.tups, I.base.frzs, I.base.tbls⟩, ⟨m, hn.sameBut hs (Ne.symm (cne x c hc)), fun j y v' e1 e2 e3 => ?_⟩, fun y c' e => ?_, I.free, I.freeC, fun p hp => ?_, tracked ⟨oc, hoc, I.freeC x c hc⟩ hs, by simpa using I.len⟩ ⟨c, hs, .inr hc⟩
    · exact (hs.2 b (Nat.ne_of_lt (Nat.lt_of_lt_of_le (Heap.lt_size e) (I.ok.cab x c hfn hc)))).trans (I.base.keep b o e n hb hx)
    · obtain ⟨sl, e1⟩ := I.base.slot b o e n hb hx
      exact ⟨sl, (hs.2 b (Nat.ne_of_lt (Nat.lt_of_lt_of_le (Heap.lt_size e) (I.ok.cab x c hfn hc)))).trans e1⟩
    · obtain ⟨o', e1⟩ := I.base.there b o e hx
      exact ⟨o', (hs.2 b (Nat.ne_of_lt (Nat.lt_of_lt_of_le (Heap.lt_size e) (I.ok.cab x c hfn hc)))).trans e1⟩
    · by_cases hj : j = i
      · subst hj
        rw [hi] at e1; cases e1
        rw [List.getElem?_set_self hiσ] at e2
        cases e2
        exact ⟨u, r, .inr ⟨.inl hk, c, hc, hc'⟩⟩
      · rw [List.getElem?_set_ne (Ne.symm hj)] at e2
        obtain ⟨u', r', q⟩ := hl j y v' e1 e2 e3
        refine ⟨u', r', ?_⟩
        rcases q with q | ⟨k, c', e, z'⟩
        · exact .inl q
        · refine .inr ⟨k, c', e, z'.sameBut hs ?_⟩
          rintro rfl
          exact hj (nodup_ix hN e1 (I.ok.inj _ _ _ e hc ▸ hi))
    · by_cases hcc : c' = c
      · subst hcc; exact ⟨_, hc'⟩
      · obtain ⟨w2, z2⟩ := I.cell y c' e
        exact ⟨w2, z2.sameBut hs hcc⟩
    · obtain ⟨e, n, ne, nf, d⟩ := I.pin p hp
      refine ⟨(hs.2 p.1 ?_).trans e, n, ne, nf, d⟩
      intro q
      rw [q, hoc] at e
      have q' : oc = p.2 := Option.some.inj e
      exact d w' (by rw [← q']; exact hocd)
theorem store_ok {M : Model} {A : Around} {E : Value → Shared → Prop} {i : Nat} {x : Str} {v : V} {u : Value} {Q : Unit → Shared → Prop} (I : Inv X pins σ H s) (hN : X.N.Nodup) (hi : X.N[i]? = some x) (hx : Loc X.env.scope x) (r : RelV v u)
    (h : ∀ s', Inv X pins (σ.set i (some v)) H s' → Q () s') (hf : X.fn x = true ∨ X.env.scope.names.lookup x = some .local := by first | exact .inl rfl | exact .inr rfl | assumption) : wpAny M A (storeName X.env x u) Q E s :=
  store_ok2 I hN hi hx r (fun s' I' _ => h s' I') hf
/-- behind a call or a block, the state as it is -/
theorem Inv.call' {s' : Shared} {ch : List Addr} (I : Inv X pins σ H s) (ho : s'.os = s.os) (u : Un (frs X.stack) ch H H' s.heap s'.heap) (hok : HOk X.prog X.w H' s'.heap) (hg : AllBare s'.gens)
    (hch : ∀ b ∈ ch, (b ∈ X.ex ∨ X.s_0.heap.objs.size ≤ b) ∧ b ≠ X.env.locals ∧ (∀ x c, X.env.cells.lookup x = some c → c ≠ b) ∧ ∀ p ∈ X.pn ++ pins, p.1 ≠ b) : Inv X pins σ H' s' := by
  obtain ⟨h', g', d', t', o'⟩ := s'
  have e : o' = s.os := ho
  subst e
  exact I.call (g' := g') (t' := t') (d' := d') u hok hg hch
end

/-! ### the judgements -/
/-- an exception: its class, its own dict's address (where it has one), the abstract heap behind it -/
abbrev XK := Value → Option Addr → Hp → Prop
abbrev St := List (Option V)
abbrev VK := V → Hp → Prop
/-- an expression's reading; a test's; an argument list's -/
abbrev TE := St → Hp → VK → Prop
abbrev TT := St → Hp → (Bool → Hp → Prop) → Prop
abbrev TA := St → Hp → (List V → Hp → Prop) → Prop
/-- what is wanted behind a statement -/
structure Ends where
  nx : St → Hp → Prop
  rt : VK
  bk : St → Hp → Prop := fun _ _ => False
  ct : St → Hp → Prop := fun _ _ => False
abbrev TS := Ends → St → Hp → Prop

def EP (X : Cx) (pins : List (Addr × Obj)) (σ : St) (Q : VK) (u : Value) (s' : Shared) : Prop := ∃ v H', Inv X pins σ H' s' ∧ RelV v u ∧ Q v H'
def TP (X : Cx) (pins : List (Addr × Obj)) (σ : St) (Q : Bool → Hp → Prop) (b : Bool) (s' : Shared) : Prop := ∃ H', Inv X pins σ H' s' ∧ Q b H'
def AP (X : Cx) (pins : List (Addr × Obj)) (σ : St) (Q : List V → Hp → Prop) (us : List Value) (s' : Shared) : Prop := ∃ vs H', Inv X pins σ H' s' ∧ Vals vs us ∧ Q vs H'
def SP (X : Cx) (pins : List (Addr × Obj)) (D : Ends) (f : Flow) (s' : Shared) : Prop :=
  match f with
  | .next => ∃ σ' H', Inv X pins σ' H' s' ∧ D.nx σ' H'
  | .brk => ∃ σ' H', Inv X pins σ' H' s' ∧ D.bk σ' H'
  | .cont => ∃ σ' H', Inv X pins σ' H' s' ∧ D.ct σ' H'
  | .ret u => ∃ v σ' H', Inv X pins σ' H' s' ∧ RelV v u ∧ D.rt v H'

def PE (X : Cx) (e : Expr) (t : TE) : Prop :=
  ∀ (pins : List (Addr × Obj)) (s : Shared) (σ : St) (H : Hp) (Q : VK), Inv X pins σ H s → t σ H Q → wpAny (model X.prog X.w) X.A (eval e X.env) (EP X pins σ Q) X.xe s
def PT (X : Cx) (e : Expr) (t : TT) : Prop :=
  ∀ (pins : List (Addr × Obj)) (s : Shared) (σ : St) (H : Hp) (Q : Bool → Hp → Prop), Inv X pins σ H s → t σ H Q → wpAny (model X.prog X.w) X.A (isTrue e X.env (eval e X.env)) (TP X pins σ Q) X.xe s
/-- a test whatever its 'whole' is (and, or) -/
def PW (X : Cx) (e : Expr) (t : TT) : Prop :=
  ∀ (whole : Sem Value) (pins : List (Addr × Obj)) (s : Shared) (σ : St) (H : Hp) (Q : Bool → Hp → Prop), Inv X pins σ H s → t σ H Q → wpAny (model X.prog X.w) X.A (isTrue e X.env whole) (TP X pins σ Q) X.xe s
theorem PW.pt {X : Cx} {e : Expr} {t : TT} (h : PW X e t) : PT X e t := h _
/-- an argument list (no star), from the left -/
def PA (X : Cx) (es : List Expr) (t : TA) : Prop :=
  ∀ (pos : Pos) (pins : List (Addr × Obj)) (s : Shared) (σ : St) (H : Hp) (Q : List V → Hp → Prop), Inv X pins σ H s → t σ H Q → wpAny (model X.prog X.w) X.A (spliced (backTo pos (starEach es X.env))) (AP X pins σ Q) X.xe s
def PS (X : Cx) (st : Stmt) (t : TS) : Prop :=
  ∀ (pins : List (Addr × Obj)) (s : Shared) (σ : St) (H : Hp) (D : Ends), Inv X pins σ H s → t D σ H → wpAny (model X.prog X.w) X.A (exec st X.env) (SP X pins D) X.xe s
def PSs (X : Cx) (st : List Stmt) (t : TS) : Prop :=
  ∀ (pins : List (Addr × Obj)) (s : Shared) (σ : St) (H : Hp) (D : Ends), Inv X pins σ H s → t D σ H → wpAny (model X.prog X.w) X.A (execs st X.env) (SP X pins D) X.xe s
/-- weaken the end -/
theorem thn {α : Type} {t : Sem α} {Q Q' : α → Shared → Prop} {M : Model} {A : Around} {E : Value → Shared → Prop} {s : Shared} (h : wpAny M A t Q E s) (hQ : ∀ a s, Q a s → Q' a s) : wpAny M A t Q' E s := wpAny_mono h hQ fun _ _ x => x
end L2

namespace L2
open PySem PySem.Spec PyProof.Rows
section
variable {X : Cx}

/-! ### names and constants -/
def tVar (i : Nat) : TE := fun σ H Q => ∃ v, σ[i]? = some (some v) ∧ Q v H
def tC (v : V) : TE := fun _ H Q => Q v H
theorem pe_var {i : Nat} {x : Str} {pos : Pos} (hN : X.N[i]? = some x) (hv : Vis X.env.scope x) (hd : (x == ("__debug__" : Str)) = false := by decide) (hcd : (x == ("__classdict__" : Str)) = false := by decide) : PE X (.Name x pos) (tVar i) := by
  intro pins s σ H Q I h
  obtain ⟨v, e, h⟩ := h
  obtain ⟨m, hn, hl⟩ := I.loc
  obtain ⟨u, r, l⟩ := hl i x v hN e hv
  have fin : EP X pins σ Q u s := ⟨v, H, I, r, h⟩
  rcases l with ⟨hk, hm⟩ | ⟨hk, c, hc, hcell⟩
  · exact wpAny_Name (wpAny_loadName_local I.ok.kind hk hn hm fin) hd
  · rcases hk with hk | hk
    · exact wpAny_Name (wpAny_loadName_cell I.ok.kind hk hc hcell fin) hd
    · exact wpAny_Name (wpAny_loadName_free I.ok.kind hk hc hcell fin hcd) hd
theorem pe_int {i j pos} : PE X (.Constant (.int i) j pos) (tC (.int i)) := fun _ _ _ H _ I h => wpAny_Constant_int ⟨.int i, H, I.tok _, ⟨_, rfl⟩, h⟩
theorem pe_bl {b j pos} : PE X (.Constant (.bool b) j pos) (tC (.bl b)) := fun _ _ _ H _ I h => Constant_bool ⟨.bl b, H, I, rfl, h⟩
theorem pe_non {j pos} : PE X (.Constant .none j pos) (tC .non) := fun _ _ _ H _ I h => Constant_none ⟨.non, H, I, rfl, h⟩
/-- a global name of the def -/
def Gl (X : Cx) (x : Str) : Prop := X.env.kindOf x = some .globalImplicit
theorem ld_glob {E : Value → Shared → Prop} {pins : List (Addr × Obj)} {s : Shared} {σ : St} {H : Hp} {x : Str} {u : Value} {pos : Pos} {Q : Value → Shared → Prop} (I : Inv X pins σ H s) (hg : Gl X x) (hm : X.mg x = some u) (h : Q u s)
    (hd : (x == ("__debug__" : Str)) = false := by decide) : wpAny (model X.prog X.w) X.A (eval (.Name x pos) X.env) Q E s :=
  Calls.Name_function_global I.ok.kind hg (Calls.loadGlobal_global (by rw [I.ok.glob]; exact I.mod.glob.keeps I.bk) hm h) hd
theorem ld_blt {E : Value → Shared → Prop} {pins : List (Addr × Obj)} {s : Shared} {σ : St} {H : Hp} {x : Str} {u : Value} {pos : Pos} {Q : Value → Shared → Prop} (I : Inv X pins σ H s) (hg : Gl X x) (hm : X.mg x = none) (hv : bootBuiltins x = some u) (h : Q u s)
    (hn : x ≠ "__name__" := by decide) (hd : (x == ("__debug__" : Str)) = false := by decide) : wpAny (model X.prog X.w) X.A (eval (.Name x pos) X.env) Q E s := by
  obtain ⟨mb, h1, h2⟩ := I.mod.blt
  exact Calls.Name_function_global I.ok.kind hg (Calls.loadGlobal_builtin (by rw [I.ok.glob]; exact I.mod.glob.keeps I.bk) hm (by rw [I.ok.blt]; exact h1.keeps I.bk) ((h2 x hn).trans hv) h) hd
/-- a module's constant, a class, a function, as a value -/
theorem pe_glob {x : Str} {v : V} {u : Value} {pos : Pos} (hg : Gl X x) (hm : X.mg x = some u) (r : RelV v u) (hd : (x == ("__debug__" : Str)) = false := by decide) : PE X (.Name x pos) (tC v) :=
  fun _ _ _ H _ I h => ld_glob I hg hm ⟨v, H, I, r, h⟩ hd
/-! ### arithmetic -/
variable {a b : Expr} {ta tb : TE} {pos : Pos}
/-! ### comparisons -/
/-! ### and, or, not -/
variable {tA tB' : TT} {rest : List Expr}
def tAnd (t u : TT) : TT := fun σ H Q => t σ H fun c H1 => if c = true then u σ H1 Q else Q false H1
def tOr (t u : TT) : TT := fun σ H Q => t σ H fun c H1 => if c = true then Q true H1 else u σ H1 Q
def tNot (t : TT) : TT := fun σ H Q => t σ H fun c H1 => Q (!c) H1
theorem pw_and1 (ha : PT X a tA) : PW X (.BoolOp .And [a] pos) tA := by
  intro wh pins s σ H Q I h
  refine isTrue_and (thn (ha pins s σ H Q I h) fun c s1 e => ?_)
  cases c with
  | true => exact isTrue_and_nil e
  | false => exact e
theorem pw_or1 (ha : PT X a tA) : PW X (.BoolOp .Or [a] pos) tA := by
  intro wh pins s σ H Q I h
  refine isTrue_or (thn (ha pins s σ H Q I h) fun c s1 e => ?_)
  cases c with
  | false => exact isTrue_or_nil e
  | true => exact e
theorem pw_and (ha : PT X a tA) (hb : PW X (.BoolOp .And (b :: rest) pos) tB') : PW X (.BoolOp .And (a :: b :: rest) pos) (tAnd tA tB') := by
  intro wh pins s σ H Q I h
  refine isTrue_and (thn (ha pins s σ H _ I h) fun c s1 ⟨H1, I1, q1⟩ => ?_)
  cases c with
  | true => exact hb wh pins s1 σ H1 Q I1 q1
  | false => exact ⟨H1, I1, q1⟩
theorem pw_or (ha : PT X a tA) (hb : PW X (.BoolOp .Or (b :: rest) pos) tB') : PW X (.BoolOp .Or (a :: b :: rest) pos) (tOr tA tB') := by
  intro wh pins s σ H Q I h
  refine isTrue_or (thn (ha pins s σ H _ I h) fun c s1 ⟨H1, I1, q1⟩ => ?_)
  cases c with
  | true => exact ⟨H1, I1, q1⟩
  | false => exact hb wh pins s1 σ H1 Q I1 q1
theorem pt_not (ha : PT X a tA) : PT X (.UnaryOp .Not a pos) (tNot tA) := by
  intro pins s σ H Q I h
  exact isTrue_not (ha pins s σ H (fun c H1 => Q (!c) H1) I h)
/-- .. as values (bools) -/
def tAndV (ta tb : TE) : TE := fun σ H Q => ta σ H fun x H1 => ∃ c, x = .bl c ∧ if c = true then tb σ H1 Q else Q (.bl false) H1
def tOrV (ta tb : TE) : TE := fun σ H Q => ta σ H fun x H1 => ∃ c, x = .bl c ∧ if c = true then Q (.bl true) H1 else tb σ H1 Q
theorem pe_one {op} {t : TE} (h : PE X a t) : PE X (.BoolOp op [a] pos) t := fun pins s σ H Q I hw => BoolOp_one (h pins s σ H Q I hw)
theorem pe_and (ha : PE X a ta) (hb : PE X (.BoolOp .And (b :: rest) pos) tb) : PE X (.BoolOp .And (a :: b :: rest) pos) (tAndV ta tb) := by
  intro pins s σ H Q I h
  refine BoolOp_and (thn (ha pins s σ H _ I h) fun v s1 ⟨x, H1, I1, r1, q1⟩ => ?_)
  obtain ⟨c, rfl, q1⟩ := q1
  cases r1
  refine wpAny_truthy_bool ?_
  cases c with
  | true => exact hb pins s1 σ H1 Q I1 q1
  | false => exact ⟨.bl false, H1, I1, rfl, q1⟩
theorem pe_or (ha : PE X a ta) (hb : PE X (.BoolOp .Or (b :: rest) pos) tb) : PE X (.BoolOp .Or (a :: b :: rest) pos) (tOrV ta tb) := by
  intro pins s σ H Q I h
  refine BoolOp_or (thn (ha pins s σ H _ I h) fun v s1 ⟨x, H1, I1, r1, q1⟩ => ?_)
  obtain ⟨c, rfl, q1⟩ := q1
  cases r1
  refine wpAny_truthy_bool ?_
  cases c with
  | false => exact hb pins s1 σ H1 Q I1 q1
  | true => exact ⟨.bl true, H1, I1, rfl, q1⟩
/-- a if t else b -/
def tIf (t : TT) (ta tb : TE) : TE := fun σ H Q => t σ H fun c H1 => if c = true then ta σ H1 Q else tb σ H1 Q
theorem pe_ifExp {c : Expr} (hc : PT X c tA) (ha : PE X a ta) (hb : PE X b tb) : PE X (.IfExp c a b pos) (tIf tA ta tb) := by
  intro pins s σ H Q I h
  refine wpAny_IfExp (thn (hc pins s σ H _ I h) fun d s1 ⟨H1, I1, q1⟩ => ?_)
  cases d with
  | true => exact ha pins s1 σ H1 Q I1 q1
  | false => exact hb pins s1 σ H1 Q I1 q1
end
end L2

namespace L2
open PySem PySem.Spec PyProof.Rows

/-! ### a list, a tuple that is read: tracked, frozen, or an object of the module -/
def SqL (K : PySem.W.Frag) (H : Hp) (a : Addr) (xs : List V) : Prop :=
  Rd H a (.lst xs) ∨
    ∃ (o : Obj) (its : Array Value) (n : Nat), K.lookup a = some o ∧ o.cls = .type "list" ∧ o.dict = none ∧ o.data = .seq its n ∧ its.size ≤ sizeLine ∧ Vals xs its.toList
def SqT (K : PySem.W.Frag) (H : Hp) (a : Addr) (xs : List V) : Prop :=
  Rd H a (.tup xs) ∨
    ∃ (o : Obj) (its : Array Value) (n : Nat), K.lookup a = some o ∧ o.cls = .type "tuple" ∧ o.data = .seq its n ∧ its.size ≤ sizeLine ∧ Vals xs its.toList
def absV : Value → Option V
  | .none => some .non
  | .bool b => some (.bl b)
  | .int i _ => some (.int i)
  | .str x _ => some (.str x)
  | .bytes b _ => some (.byt b)
  | .float b _ => some (.flt b)
  | .ref a => some (.ref a)
  | .type n => some (.ty n)
  | _ => none
theorem RelV.abs {x : V} {u : Value} (r : RelV x u) : absV u = some x := by
  cases x with
  | non => cases r; rfl
  | bl _ => cases r; rfl
  | int _ => obtain ⟨t, rfl⟩ := r; rfl
  | str _ => obtain ⟨t, rfl⟩ := r; rfl
  | byt _ => obtain ⟨t, rfl⟩ := r; rfl
  | flt _ => obtain ⟨t, rfl⟩ := r; rfl
  | ref _ => cases r; rfl
  | ty _ => cases r; rfl
theorem RelV.inj {x y : V} {u : Value} (r : RelV x u) (q : RelV y u) : x = y := Option.some.inj (r.abs.symm.trans q.abs)
theorem Vals.inj : ∀ {xs ys : List V} {us : List Value}, Vals xs us → Vals ys us → xs = ys
  | _, _, _, .nil, .nil => rfl
  | _, _, _, .cons r t, .cons r' t' => by rw [r.inj r', Vals.inj t t']
section
variable {X : Cx} {pins : List (Addr × Obj)} {σ : St} {H : Hp} {s : Shared} {a : Addr} {xs ys : List V}
theorem SqL.of {K : PySem.W.Frag} (h : H a = some (.lst xs)) : SqL K H a xs := .inl (.inl h)
theorem SqT.of {K : PySem.W.Frag} (h : H a = some (.tup xs)) : SqT K H a xs := .inl (.inl h)
theorem Inv.list (I : Inv X pins σ H s) (h : SqL X.K H a xs) : ∃ its : List Value, Vals xs its ∧ PlainL s.heap a its.toArray ∧ xs.length ≤ sizeLine := by
  rcases h with h | ⟨o, its, n, hk, hc, hd, hs, hz, r⟩
  · obtain ⟨z, its, n, r, e⟩ := h.ok I.hok
    exact ⟨its, r, ⟨_, n, e, rfl, rfl, rfl⟩, z⟩
  · refine ⟨its.toList, r, ⟨o, n, I.kIn a o hk, hc, hd, by simpa using hs⟩, ?_⟩
    have e := r.length
    simp only [Array.length_toList] at e
    omega
theorem Inv.tuple (I : Inv X pins σ H s) (h : SqT X.K H a xs) : ∃ its : List Value, Vals xs its ∧ IsTup s.heap a its.toArray ∧ xs.length ≤ sizeLine := by
  rcases h with h | ⟨o, its, n, hk, hc, hs, hz, r⟩
  · obtain ⟨z, its, r, p⟩ := h.ok I.hok
    exact ⟨its, r, p, z⟩
  · refine ⟨its.toList, r, ⟨o, I.kIn a o hk, hc, n, by simpa using hs⟩, ?_⟩
    have e := r.length
    simp only [Array.length_toList] at e
    omega
theorem Inv.list_inj (I : Inv X pins σ H s) (h : SqL X.K H a xs) (h' : SqL X.K H a ys) : xs = ys := by
  obtain ⟨its, r, ⟨o, n, e, _, _, d⟩, _⟩ := I.list h
  obtain ⟨its', r', ⟨o', n', e', _, _, d'⟩, _⟩ := I.list h'
  rw [e] at e'; cases e'
  rw [d] at d'
  injection d' with d1 _
  have : its = its' := by simpa using congrArg Array.toList d1
  subst this
  exact r.inj r'
end

/-! ### another wish about exceptions -/
abbrev Cx.wish (X : Cx) (E : Value → Shared → Prop) : Cx := { X with xe := E }
/-- no exception leaves -/
abbrev Cx.nox (X : Cx) : Cx := X.wish fun _ _ => False
theorem Cx.Ok.wish {X : Cx} (ok : X.Ok) (E : Value → Shared → Prop) : (X.wish E).Ok :=
  ⟨ok.mod, ok.kind, ok.glob, ok.blt, ok.above, ok.inj, ok.has, ok.cab, ok.hd, ok.frames, ok.stk, ok.exf, ok.bs, ok.bsz, ok.noex, ok.exfs, ok.funs, ok.frf⟩
theorem Cx.Ok.unwish {X : Cx} {E : Value → Shared → Prop} (ok : (X.wish E).Ok) : X.Ok :=
  ⟨ok.mod, ok.kind, ok.glob, ok.blt, ok.above, ok.inj, ok.has, ok.cab, ok.hd, ok.frames, ok.stk, ok.exf, ok.bs, ok.bsz, ok.noex, ok.exfs, ok.funs, ok.frf⟩
section
variable {X : Cx} {pins : List (Addr × Obj)} {σ : St} {H : Hp} {s : Shared} {E : Value → Shared → Prop}
theorem Inv.wish (I : Inv X pins σ H s) (E : Value → Shared → Prop) : Inv (X.wish E) pins σ H s := ⟨I.ok.wish E, I.os, I.bare, I.base, I.loc, I.cell, I.free, I.freeC, I.pin, I.hok, I.len⟩
theorem Inv.unwish (I : Inv (X.wish E) pins σ H s) : Inv X pins σ H s := ⟨I.ok.unwish, I.os, I.bare, I.base, I.loc, I.cell, I.free, I.freeC, I.pin, I.hok, I.len⟩
theorem SP.unwish {D : Ends} {f : Flow} {s' : Shared} (h : SP (X.wish E) pins D f s') : SP X pins D f s' := by
  cases f with
  | next => obtain ⟨σ', H', I, q⟩ := h; exact ⟨σ', H', I.unwish, q⟩
  | brk => obtain ⟨σ', H', I, q⟩ := h; exact ⟨σ', H', I.unwish, q⟩
  | cont => obtain ⟨σ', H', I, q⟩ := h; exact ⟨σ', H', I.unwish, q⟩
  | ret u => obtain ⟨v, σ', H', I, r, q⟩ := h; exact ⟨v, σ', H', I.unwish, r, q⟩
theorem PSs.nox {st : List Stmt} {t : TS} (h : PSs X.nox st t) : PSs X st t := fun pins s σ H D I hw =>
  wpAny_mono (h pins s σ H D (I.wish _) hw) (fun _ _ q => q.unwish) fun _ _ z => False.elim z
end

/-! ### blocks and small statements -/
section
variable {X : Cx} {st : Stmt} {rest : List Stmt} {t u : TS} {e : Expr} {te : TE} {pos : Pos}
def tNext : TS := fun D σ H => D.nx σ H
def tSeq (t u : TS) : TS := fun D σ H => t { D with nx := u D } σ H
theorem pss_nil : PSs X [] tNext := fun _ _ σ H _ I h => wpAny_execs_nil ⟨σ, H, I, h⟩
theorem pss_cons (h1 : PS X st t) (h2 : PSs X rest u) : PSs X (st :: rest) (tSeq t u) := by
  intro pins s σ H D I h
  refine wpAny_execs_cons (thn (h1 pins s σ H { D with nx := u D } I h) fun f s1 q => ?_)
  cases f with
  | next =>
    obtain ⟨σ', H', I', q⟩ := q
    exact h2 pins s1 σ' H' D I' q
  | ret v => exact q
  | brk => exact q
  | cont => exact q
theorem pss_one (h1 : PS X st t) : PSs X [st] t := by
  intro pins s σ H D I h
  refine wpAny_execs_cons (thn (h1 pins s σ H D I h) fun f s1 q => ?_)
  cases f with
  | next => exact wpAny_execs_nil q
  | ret v => exact q
  | brk => exact q
  | cont => exact q
/-- in a def's body nothing is shown -/
theorem Inv.quiet {pins : List (Addr × Obj)} {σ : St} {H : Hp} {s : Shared} (I : Inv X pins σ H s) : interactive X.env = false := by simp [interactive, I.ok.kind]
def tRet (te : TE) : TS := fun D σ H => te σ H D.rt
theorem ps_ret (he : PE X e te) : PS X (.Return (some e) pos) (tRet te) := by
  intro pins s σ H D I h
  exact wpAny_Return_some (thn (he pins s σ H _ I h) fun v s1 ⟨x, H1, I1, r1, q1⟩ => ⟨x, σ, H1, I1, r1, q1⟩)
def tIfS (c : TT) (t u : TS) : TS := fun D σ H => c σ H fun b H1 => if b = true then t D σ H1 else u D σ H1
theorem ps_if {c : Expr} {a b : List Stmt} {tc : TT} (hc : PT X c tc) (ha : PSs X a t) (hb : PSs X b u) : PS X (.If c a b pos) (tIfS tc t u) := by
  intro pins s σ H D I h
  refine wpAny_If (thn (hc pins s σ H _ I h) fun d s1 ⟨H1, I1, q1⟩ => ?_)
  cases d with
  | true => exact ha pins s1 σ H1 D I1 q1
  | false => exact hb pins s1 σ H1 D I1 q1
end

/-! ### targets -/
abbrev TG := V → St → Hp → (St → Hp → Prop) → Prop
def PG (X : Cx) (target : Expr) (t : TG) : Prop :=
  ∀ (pins : List (Addr × Obj)) (s : Shared) (σ : St) (H : Hp) (v : V) (u : Value) (Q : St → Hp → Prop), Inv X pins σ H s → RelV v u → t v σ H Q →
    wpAny (model X.prog X.w) X.A (assign target X.env u) (fun _ s' => ∃ σ' H', Inv X pins σ' H' s' ∧ Q σ' H') X.xe s
section
variable {X : Cx} {pos : Pos}
def gName (i : Nat) : TG := fun v σ H Q => Q (σ.set i (some v)) H
theorem pg_name {i : Nat} {x : Str} (hN : X.N.Nodup) (hi : X.N[i]? = some x) (hx : Loc X.env.scope x) (hf : X.fn x = true ∨ X.env.scope.names.lookup x = some .local := by first | exact .inl rfl | exact .inr rfl | assumption) : PG X (.Name x pos) (gName i) := by
  intro pins s σ H v u Q I r h
  exact wpAny_assign_Name (store_ok I hN hi hx r (fun s' I' => ⟨_, H, I', h⟩) hf)
/-- target = value -/
def tAsg (te : TE) (g : TG) : TS := fun D σ H => te σ H fun x H1 => g x σ H1 D.nx
/-- name = value -/
theorem ps_set {i : Nat} {x : Str} {e : Expr} {te : TE} {pos' : Pos} (hN : X.N.Nodup) (hi : X.N[i]? = some x) (hx : Loc X.env.scope x) (he : PE X e te) (hs : swapsWith e (some (.Name x pos')) pos.line X.env = pure false := by rfl) (hf : X.fn x = true ∨ X.env.scope.names.lookup x = some .local := by first | exact .inl rfl | exact .inr rfl | assumption) :
    PS X (.Assign [.Name x pos'] e pos) (tAsg te (gName i)) := by
  intro pins s σ H D I h
  refine wpAny_Assign_Name (thn (he pins s σ H _ I h) fun v s1 ⟨y, H1, I1, r1, q1⟩ => ?_) hs
  exact store_ok I1 hN hi hx r1 (fun s2 I2 => ⟨_, H1, I2, q1⟩) hf
end

/-! ### while -/
section
variable {X : Cx} {pos : Pos}
end

/-! ### what a loop or a comprehension walks -/
/-- at turn i: it yields x (the heap may grow), or it stops -/
structure It where
  go : Nat → Hp → Prop
  yld : Nat → Hp → V → Hp → Prop
  stop : Nat → Hp → Prop
/-- the iterator's own objects may turn: they are not the frame's, not pinned, younger than the entry (or a comprehension's own) -/
def FpOk (X : Cx) (pins : List (Addr × Obj)) (H : Hp) (b : Addr) : Prop :=
  H b = none ∧ b ≠ X.env.locals ∧ b ∉ X.fs ∧ (b ∈ X.ex ∨ X.s_0.heap.objs.size ≤ b) ∧ (∀ x c, X.env.cells.lookup x = some c → c ≠ b) ∧ ∀ p ∈ X.pn ++ pins, p.1 ≠ b
theorem Inv.fpOk {X : Cx} {pins : List (Addr × Obj)} {σ : St} {H H' : Hp} {s : Shared} {b : Addr} (I : Inv X pins σ H s) (hb : s.heap.objs.size ≤ b) (hn : H' b = none) : FpOk X pins H' b := by
  refine ⟨hn, Nat.ne_of_gt (Nat.lt_of_lt_of_le I.lt hb), I.nofs hb, .inr (Nat.le_trans I.sz hb), fun x c e z => ?_, fun p hp z => ?_⟩
  · obtain ⟨v, q⟩ := I.cell x c e
    exact absurd (Nat.lt_of_lt_of_le q.lt (by rw [z]; exact hb)) (Nat.lt_irrefl _)
  · exact absurd (Nat.lt_of_lt_of_le (Heap.lt_size (I.pin p hp).1) (by rw [z]; exact hb)) (Nat.lt_irrefl _)
structure Turn (P : Program) (w : World) (K : PySem.W.Frag) (tg : Expr) (J : It) (fp : List Addr) (it : Addr) (tn : Nat → Heap → Prop) : Prop where
  mem : it ∈ fp
  obj : ∀ i h, tn i h → ∀ b ∈ fp, ∃ o, h.get? b = some o ∧ ∀ v, o.data ≠ .cell v
  keep : ∀ i h h', tn i h → (∀ b ∈ fp, ∀ o, h.get? b = some o → h'.get? b = some o) → tn i h'
  item : ∀ (X : Cx), X.prog = P → X.w = w → X.K = K → X.calm = true → ∀ (i : Nat) (pins : List (Addr × Obj)) (s : Shared) (σ : St) (H : Hp) (E : Value → Shared → Prop), Inv X pins σ H s → (∀ b ∈ fp, FpOk X pins H b) → tn i s.heap → J.go i H →
    wpAny (model P w) X.A (pyNext (.ref it)) (fun r s1 => ∃ u, r = some u ∧
      wpAny (model P w) X.A (letOwnedTupleGo tg (.ref it) u) (fun _ s2 => ∃ x H', Inv X pins σ H' s2 ∧ RelV x u ∧ J.yld i H x H' ∧ tn (i + 1) s2.heap ∧ ∀ b ∈ fp, H' b = none) E s1) E s
  done : ∀ (X : Cx), X.prog = P → X.w = w → X.K = K → X.calm = true → ∀ (i : Nat) (pins : List (Addr × Obj)) (s : Shared) (σ : St) (H : Hp) (E : Value → Shared → Prop), Inv X pins σ H s → (∀ b ∈ fp, FpOk X pins H b) → tn i s.heap → J.stop i H →
    wpAny (model P w) X.A (pyNext (.ref it)) (fun r s1 => r = none ∧ Inv X pins σ H s1) E s
  self : ∀ (A : Around) (i : Nat) (s : Shared) (Q : Value → Shared → Prop) (E : Value → Shared → Prop), tn i s.heap → Q (.ref it) s → wpAny (model P w) A (pyIter (.ref it)) Q E s
abbrev TI := St → Hp → (It → Hp → Prop) → Prop
/-- an iterator has come -/
def PIE (X : Cx) (pins : List (Addr × Obj)) (σ : St) (tg : Expr) (R : It → Hp → Prop) (itv : Value) (s2 : Shared) : Prop :=
  ∃ (it : Addr) (fp : List Addr) (tn : Nat → Heap → Prop) (J : It) (H' : Hp), itv = .ref it ∧ Inv X pins σ H' s2 ∧ Turn X.prog X.w X.K tg J fp it tn ∧ tn 0 s2.heap ∧ (∀ b ∈ fp, FpOk X pins H' b) ∧ R J H'
def PI (X : Cx) (tg iter : Expr) (wi : TI) : Prop :=
  ∀ (pins : List (Addr × Obj)) (s : Shared) (σ : St) (H : Hp) (R : It → Hp → Prop), Inv X pins σ H s → wi σ H R →
    wpAny (model X.prog X.w) X.A (eval iter X.env) (fun v s1 => wpAny (model X.prog X.w) X.A (pyIter v) (PIE X pins σ tg R) X.xe s1) X.xe s

/-- the step ahead of the store is nothing for an iterator that keeps no tuple -/
theorem go_of {M : Model} {A : Around} {E : Value → Shared → Prop} {s : Shared} {tg : Expr} {it : Addr} {u : Value} {o : Obj} {n : String} {vs : Array Value} {Q : Unit → Shared → Prop} (ho : s.heap.get? it = some o) (hc : o.cls = .type n) (hd : o.data = .fields vs)
    (hn : ["enumerate", "zip", "dict_itemiterator", "dict_reverseitemiterator", "odict_iterator", "itertools.zip_longest", "itertools.pairwise"].contains n = false) (hQ : Q () s) : wpAny M A (letOwnedTupleGo tg (.ref it) u) Q E s := by
  unfold letOwnedTupleGo
  cases tg <;> first
    | exact wpAny_pure hQ
    | (cases u <;> first
        | exact wpAny_pure hQ
        | (refine wpAny_bind (wpAny_load ho ?_)
           rw [hc, hd]
           show wpAny M A (if (["enumerate", "zip", "dict_itemiterator", "dict_reverseitemiterator", "odict_iterator", "itertools.zip_longest", "itertools.pairwise"].contains n && vs[0]? == some (rawInt _)) = true then _ else _) Q E s
           rw [if_neg (by intro h; rw [hn, Bool.false_and] at h; cases h)]
           exact wpAny_pure hQ))

/-- the list at a, as it stands at each turn (a loop may append to it) -/
def Itl (K : PySem.W.Frag) (a : Addr) : It :=
  ⟨fun i H => ∃ xs x, SqL K H a xs ∧ xs[i]? = some x, fun i H x H' => H' = H ∧ ∀ xs, SqL K H a xs → xs[i]? = some x, fun i H => ∃ xs, SqL K H a xs ∧ xs.length ≤ i⟩
theorem turn_list {P : Program} {w : World} {K : PySem.W.Frag} {tg : Expr} (a it : Addr) : Turn P w K tg (Itl K a) [it] it (fun i h => h.IsListIter it a i) where
  mem := by simp
  obj := fun i h st b hb => by
    have e : b = it := by simpa using hb
    subst e
    obtain ⟨o, e, c, d⟩ := st
    exact ⟨o, e, fun v z => by rw [d] at z; cases z⟩
  keep := fun i h h' st k => st.at fun o e => k it (by simp) o e
  item := by
    intro X hP hw hK hc i pins s σ H E I hf st hg
    subst hP hw hK
    obtain ⟨xs, x, hq, hx⟩ := hg
    obtain ⟨its, rv, p, hz⟩ := I.list hq
    obtain ⟨u, hu, ru⟩ := rv.get hx
    obtain ⟨f0, f1, f2, f3, f4, f5⟩ := hf it (by simp)
    refine wpAny_pyNext_list_item st p.isList (x := u) (by simpa using hu) fun h' st' sb => ?_
    have I1 : Inv X pins σ H { s with heap := h' } := I.turned (t' := s.toks) (fun b o hb e => (sb.2 b hb).trans e) f0 f1 f3 f4 f5
    obtain ⟨o, e, c, d⟩ := id st'
    exact ⟨u, rfl, go_of (s := { s with heap := h' }) e c d (by decide) ⟨x, H, I1, ru, ⟨rfl, fun ys hy => by rw [I.list_inj hy hq]; exact hx⟩, st', fun b hb => (hf b hb).1⟩⟩
  done := by
    intro X hP hw hK hc i pins s σ H E I hf st hg
    subst hP hw hK
    obtain ⟨xs, hq, hx⟩ := hg
    obtain ⟨its, rv, p, hz⟩ := I.list hq
    obtain ⟨f0, f1, f2, f3, f4, f5⟩ := hf it (by simp)
    have hl := rv.length
    exact wpAny_pyNext_list_end (I.ok.hd hc) st p.isList (by simp; omega) fun h' eb => ⟨rfl, I.turned (t' := s.toks) (fun b o hb e => eb b o hb e) f0 f1 f3 f4 f5⟩
  self := fun _ _ _ _ _ st h => wpAny_pyIter_listiter st h
end L2

namespace L2
open PySem PySem.Spec PyProof.Rows
section
variable {X : Cx} {tg : Expr}
def iList (K : PySem.W.Frag) (tl : TE) : TI := fun σ H R => tl σ H fun x H1 => ∃ a, x = .ref a ∧ (∃ xs, SqL K H1 a xs) ∧ R (Itl K a) H1
theorem pi_list {l : Expr} {tl : TE} (hl : PE X l tl) : PI X tg l (iList X.K tl) := by
  intro pins s σ H R I h
  refine thn (hl pins s σ H _ I h) fun v s1 ⟨x, H1, I1, r1, q1⟩ => ?_
  obtain ⟨a, e, ⟨xs, hq⟩, q⟩ := q1
  subst e
  cases r1
  obtain ⟨its, rv, p, hz⟩ := I1.list hq
  refine wpAny_pyIter_list p.isList ?_
  refine ⟨s1.heap.objs.size, [s1.heap.objs.size], _, _, H1, rfl, I1.kept (t' := s1.toks) fun b o e => Heap.get?_push_of_some _ e, turn_list a _, ⟨_, Heap.get?_push_size _ rfl, rfl, rfl⟩, fun b hb => ?_, q⟩
  have e : b = s1.heap.objs.size := by simpa using hb
  subst e
  exact I1.fpOk (Nat.le_refl _) (I1.hok.fresh (Nat.le_refl _))
/-! ### for -/
/-- the records at fp as they stand -/
def pinsAt (fp : List Addr) (h : Heap) : List (Addr × Obj) := fp.filterMap fun b => (h.get? b).map fun o => (b, o)
theorem mem_pinsAt {fp : List Addr} {h : Heap} {b : Addr} {o : Obj} (hb : b ∈ fp) (e : h.get? b = some o) : (b, o) ∈ pinsAt fp h := List.mem_filterMap.mpr ⟨b, hb, by rw [e]; rfl⟩
theorem of_pinsAt {fp : List Addr} {h : Heap} {p : Addr × Obj} (hp : p ∈ pinsAt fp h) : p.1 ∈ fp ∧ h.get? p.1 = some p.2 := by
  obtain ⟨b, hb, e⟩ := List.mem_filterMap.mp hp
  cases q : h.get? b with
  | none => rw [q] at e; cases e
  | some o =>
    rw [q] at e
    have e' : (b, o) = p := Option.some.inj e
    subst e'
    exact ⟨hb, q⟩
theorem Inv.pinned {pins : List (Addr × Obj)} {σ : St} {H : Hp} {s : Shared} {fp : List Addr} (I : Inv X pins σ H s) (hf : ∀ b ∈ fp, FpOk X pins H b) (ho : ∀ b ∈ fp, ∃ o, s.heap.get? b = some o ∧ ∀ v, o.data ≠ .cell v) : Inv X (pins ++ pinsAt fp s.heap) σ H s :=
  I.pins_of fun p hp => (List.mem_append.mp hp).elim (fun z => I.pin p (List.mem_append_right _ z)) fun z => by
    obtain ⟨hb, e⟩ := of_pinsAt z
    obtain ⟨f0, f1, f2, _⟩ := hf p.1 hb
    obtain ⟨o, e', d⟩ := ho p.1 hb
    rw [e] at e'; cases e'
    exact ⟨e, f0, f1, f2, d⟩
theorem Inv.unpinned {pins pl : List (Addr × Obj)} {σ : St} {H : Hp} {s : Shared} (I : Inv X (pins ++ pl) σ H s) : Inv X pins σ H s := I.pins_of fun p hp => I.pin p (List.mem_append_right _ (List.mem_append_left _ hp))
end

/-! ### the forms one uses -/
end L2

namespace L2
open PySem PySem.Spec PyProof.Rows

abbrev R2 := V → V → Hp → VK → Prop
/-- a two-place operation on values: f is binaryOp op, inplaceOp op or compareOp op -/
def OpR (X : Cx) (f : Value → Value → Sem Value) (r : R2) : Prop :=
  ∀ (pins : List (Addr × Obj)) (s : Shared) (σ : St) (H : Hp) (x y : V) (v u : Value) (Q : VK), Inv X pins σ H s → RelV x v → RelV y u → r x y H Q →
    wpAny (model X.prog X.w) X.A (f v u) (EP X pins σ Q) X.xe s
/-- a one-place operation -/
def UnR (X : Cx) (f : Value → Sem Value) (r : V → Hp → VK → Prop) : Prop :=
  ∀ (pins : List (Addr × Obj)) (s : Shared) (σ : St) (H : Hp) (x : V) (v : Value) (Q : VK), Inv X pins σ H s → RelV x v → r x H Q →
    wpAny (model X.prog X.w) X.A (f v) (EP X pins σ Q) X.xe s
/-- a call of a value that is known (a builtin, a type) with values -/
def CallR (X : Cx) (f : Value) (r : List V → Hp → VK → Prop) : Prop :=
  ∀ (pins : List (Addr × Obj)) (s : Shared) (σ : St) (H : Hp) (xs : List V) (us : List Value) (Q : VK), Inv X pins σ H s → Vals xs us → r xs H Q →
    wpAny (model X.prog X.w) X.A (call f us) (EP X pins σ Q) X.xe s
/-- a value's truth -/
def TruR (X : Cx) (r : V → Hp → (Bool → Hp → Prop) → Prop) : Prop :=
  ∀ (pins : List (Addr × Obj)) (s : Shared) (σ : St) (H : Hp) (x : V) (v : Value) (Q : Bool → Hp → Prop), Inv X pins σ H s → RelV x v → r x H Q →
    wpAny (model X.prog X.w) X.A (truthy v) (TP X pins σ Q) X.xe s

def tOp (r : R2) (ta tb : TE) : TE := fun σ H Q => ta σ H fun x H1 => tb σ H1 fun y H2 => r x y H2 Q
def tUn (r : V → Hp → VK → Prop) (ta : TE) : TE := fun σ H Q => ta σ H fun x H1 => r x H1 Q
/-- ints in, under C, and a value out -/
def rI (C : Int → Int → Prop) (g : Int → Int → V) : R2 := fun x y H Q => ∃ i j, x = .int i ∧ y = .int j ∧ C i j ∧ Q (g i j) H
def rI0 (g : Int → Int → V) : R2 := fun x y H Q => ∃ i j, x = .int i ∧ y = .int j ∧ Q (g i j) H
def rU (g : Int → V) : V → Hp → VK → Prop := fun x H Q => ∃ i, x = .int i ∧ Q (g i) H

section
variable {X : Cx} {a b c : Expr} {ta tb tc : TE} {pos : Pos}

theorem binT (ha : PE X a ta) (hb : PE X b tb) {pins : List (Addr × Obj)} {s : Shared} {σ : St} {H : Hp} {R : V → V → Hp → Prop} (I : Inv X pins σ H s)
    (h : ta σ H fun x H1 => tb σ H1 fun y H2 => R x y H2) {Q : Value → Shared → Prop} {f : Value → Value → Sem Value}
    (hf : ∀ v u s2 x y H2, Inv X pins σ H2 s2 → RelV x v → RelV y u → R x y H2 → wpAny (model X.prog X.w) X.A (f v u) Q X.xe s2) :
    wpAny (model X.prog X.w) X.A (eval a X.env) (fun v s₁ => wpAny (model X.prog X.w) X.A (eval b X.env) (fun u s₂ => wpAny (model X.prog X.w) X.A (f v u) Q X.xe s₂) X.xe s₁) X.xe s := by
  refine thn (ha pins s σ H _ I h) fun v s1 ⟨x, H1, I1, r1, q1⟩ => ?_
  refine thn (hb pins s1 σ H1 _ I1 q1) fun u s2 ⟨y, H2, I2, r2, q2⟩ => ?_
  exact hf v u s2 x y H2 I2 r1 r2 q2

theorem pe_op {op : Operator} {r : R2} (ho : OpR X (binaryOp op) r) (ha : PE X a ta) (hb : PE X b tb) : PE X (.BinOp a op b pos) (tOp r ta tb) := by
  intro pins s σ H Q I h
  exact wpAny_BinOp (binT ha hb I h fun v u s2 x y H2 I2 rx ry q => ho pins s2 σ H2 x y v u Q I2 rx ry q)
theorem pe_un {op : UnaryOp} {r : V → Hp → VK → Prop} (ho : UnR X (unaryOp op) r) (ha : PE X a ta) : PE X (.UnaryOp op a pos) (tUn r ta) := by
  intro pins s σ H Q I h
  exact UnaryOp_ (thn (ha pins s σ H _ I h) fun v s1 ⟨x, H1, I1, r1, q1⟩ => ho pins s1 σ H1 x v Q I1 r1 q1)
/-! ### ints -/
theorem opI {f : Value → Value → Sem Value} {C : Int → Int → Prop} {g : Int → Int → Int}
    (rule : ∀ (i j : Int) (t u : Tok) (s : Shared) (Q : Value → Shared → Prop) (E : Value → Shared → Prop), C i j → Q (.int (g i j) s.toks) { s with toks := s.toks + 1 } → wpAny (model X.prog X.w) X.A (f (.int i t) (.int j u)) Q E s) :
    OpR X f (rI C fun i j => .int (g i j)) := by
  intro pins s σ H x y v u Q I rx ry h
  obtain ⟨i, j, rfl, rfl, hc, q⟩ := h
  obtain ⟨t, rfl⟩ := rx
  obtain ⟨t', rfl⟩ := ry
  exact rule i j t t' s _ _ hc ⟨.int (g i j), H, I.tok _, ⟨_, rfl⟩, q⟩
theorem opI0 {f : Value → Value → Sem Value} {g : Int → Int → Int}
    (rule : ∀ (i j : Int) (t u : Tok) (s : Shared) (Q : Value → Shared → Prop) (E : Value → Shared → Prop), Q (.int (g i j) s.toks) { s with toks := s.toks + 1 } → wpAny (model X.prog X.w) X.A (f (.int i t) (.int j u)) Q E s) :
    OpR X f (rI0 fun i j => .int (g i j)) := by
  intro pins s σ H x y v u Q I rx ry h
  obtain ⟨i, j, rfl, rfl, q⟩ := h
  obtain ⟨t, rfl⟩ := rx
  obtain ⟨t', rfl⟩ := ry
  exact rule i j t t' s _ _ ⟨.int (g i j), H, I.tok _, ⟨_, rfl⟩, q⟩
theorem opB0 {f : Value → Value → Sem Value} {g : Int → Int → Bool}
    (rule : ∀ (i j : Int) (t u : Tok) (s : Shared) (Q : Value → Shared → Prop) (E : Value → Shared → Prop), Q (.bool (g i j)) s → wpAny (model X.prog X.w) X.A (f (.int i t) (.int j u)) Q E s) :
    OpR X f (rI0 fun i j => .bl (g i j)) := by
  intro pins s σ H x y v u Q I rx ry h
  obtain ⟨i, j, rfl, rfl, q⟩ := h
  obtain ⟨t, rfl⟩ := rx
  obtain ⟨t', rfl⟩ := ry
  exact rule i j t t' s _ _ ⟨.bl (g i j), H, I, rfl, q⟩

def CPow (i j : Int) : Prop := 0 ≤ j ∧ j ≤ 1000000 ∧ i.natAbs < 2 ^ 64
theorem two_pow_nn (k : Nat) : (0 : Int) ≤ 2 ^ k := by
  rw [two_pow_cast]
  exact Int.natCast_nonneg _

theorem op_add : OpR X (binaryOp .Add) (rI0 fun i j => .int (i + j)) := opI0 fun _ _ _ _ _ _ _ q => add_int q
theorem op_sub : OpR X (binaryOp .Sub) (rI0 fun i j => .int (i - j)) := opI0 fun _ _ _ _ _ _ _ q => sub_int q
/-- % by a positive divisor of any size -/
theorem op_mod : OpR X (binaryOp .Mod) (rI (fun _ j => 0 < j) fun i j => .int (i % j)) := opI fun i j _ _ _ _ _ hc q => by
  have h1 : (0 : Int) < j := hc
  exact mod_int' (by omega) (by rw [Int.fmod_eq_emod_of_nonneg i (by omega)]; exact q)
theorem op_shr : OpR X (binaryOp .RShift) (rI (fun _ j => 0 ≤ j) fun i j => .int (i / 2 ^ j.toNat)) := opI fun i j _ _ _ _ _ hc q =>
  rshift_int hc (by rw [Int.fdiv_eq_ediv_of_nonneg i (two_pow_nn _)]; exact q)
theorem op_and : OpR X (binaryOp .BitAnd) (rI0 fun i j => .int (Builtin.bitAnd i j)) := opI0 fun _ _ _ _ _ _ _ q => and_int q
theorem op_or : OpR X (binaryOp .BitOr) (rI0 fun i j => .int (Builtin.bitOr i j)) := opI0 fun _ _ _ _ _ _ _ q => or_int q
theorem op_xor : OpR X (binaryOp .BitXor) (rI0 fun i j => .int (Builtin.bitXor i j)) := opI0 fun _ _ _ _ _ _ _ q => xor_int q

theorem unI {f : Value → Sem Value} {g : Int → Int}
    (rule : ∀ (i : Int) (t : Tok) (s : Shared) (Q : Value → Shared → Prop) (E : Value → Shared → Prop), Q (.int (g i) s.toks) { s with toks := s.toks + 1 } → wpAny (model X.prog X.w) X.A (f (.int i t)) Q E s) :
    UnR X f (rU fun i => .int (g i)) := by
  intro pins s σ H x v Q I rx h
  obtain ⟨i, rfl, q⟩ := h
  obtain ⟨t, rfl⟩ := rx
  exact rule i t s _ _ ⟨.int (g i), H, I.tok _, ⟨_, rfl⟩, q⟩
theorem un_neg : UnR X (unaryOp .USub) (rU fun i => .int (-i)) := unI fun _ _ _ _ _ q => neg_int q
/-! ### bools among ints: n += (a < b) -/
end

/-! ### comparisons -/
/-- the scalars that == tells apart as data does -/
def scal : V → V → Bool
  | .non, .non => true | .non, .int _ => true | .int _, .non => true | .non, .bl _ => true | .bl _, .non => true | .non, .str _ => true | .str _, .non => true
  | .int _, .int _ => true | .bl _, .bl _ => true | .str _, .str _ => true | .byt _, .byt _ => true
  | .int _, .str _ => true | .str _, .int _ => true | .bl _, .str _ => true | .str _, .bl _ => true
  | _, _ => false
def rEq : R2 := fun x y H Q => scal x y = true ∧ Q (.bl (decide (x = y))) H
def rNe : R2 := fun x y H Q => scal x y = true ∧ Q (.bl (!decide (x = y))) H

theorem dec_int {i j : Int} : decide (V.int i = V.int j) = (i == j) := by
  rw [Bool.eq_iff_iff]
  simp
theorem dec_bl {i j : Bool} : decide (V.bl i = V.bl j) = (i == j) := by
  rw [Bool.eq_iff_iff]
  simp
theorem dec_str {i j : Str} : decide (V.str i = V.str j) = (i == j) := by
  rw [Bool.eq_iff_iff]
  simp
theorem dec_byt {i j : Array UInt8} : decide (V.byt i = V.byt j) = (i.toList == j.toList) := by
  rw [Bool.eq_iff_iff]
  cases i
  cases j
  simp

section
variable {X : Cx} {a b c : Expr} {ta tb tc : TE} {pos : Pos}
theorem fin_bl {pins : List (Addr × Obj)} {σ : St} {H : Hp} {s : Shared} {Q : VK} {k k' : Bool} (I : Inv X pins σ H s) (q : Q (.bl k) H) (e : k = k') : EP X pins σ Q (.bool k') s := by
  subst e
  exact ⟨.bl k, H, I, rfl, q⟩
theorem op_eq : OpR X (compareOp .Eq) rEq := by
  intro pins s σ H x y v u Q I rx ry h
  obtain ⟨hs, q⟩ := h
  cases x with
  | non =>
    cases rx
    cases y with
    | non => cases ry; exact PySem.EqNone.eq_none_none (fin_bl I q (by simp))
    | bl j => cases ry; exact PySem.EqNone.eq_none_bool (fin_bl I q (by simp))
    | int j => obtain ⟨t', rfl⟩ := ry; exact PySem.EqNone.eq_none_int (fin_bl I q (by simp))
    | str j => obtain ⟨t', rfl⟩ := ry; exact PySem.EqNone.eq_none_str (fin_bl I q (by simp))
    | _ => exact absurd (show false = true from hs) Bool.false_ne_true
  | bl i =>
    cases rx
    cases y with
    | non => cases ry; exact PySem.EqNone.eq_bool_none (fin_bl I q (by simp))
    | bl j => cases ry; exact eq_bool (fin_bl I q dec_bl)
    | str j => obtain ⟨t', rfl⟩ := ry; exact PySem.EqMixed.eq_bool_str (fin_bl I q (by simp))
    | _ => exact absurd (show false = true from hs) Bool.false_ne_true
  | int i =>
    obtain ⟨t, rfl⟩ := rx
    cases y with
    | non => cases ry; exact PySem.EqNone.eq_int_none (fin_bl I q (by simp))
    | int j => obtain ⟨t', rfl⟩ := ry; exact eq_int (fin_bl I q dec_int)
    | str j => obtain ⟨t', rfl⟩ := ry; exact PySem.EqMixed.eq_int_str (fin_bl I q (by simp))
    | _ => exact absurd (show false = true from hs) Bool.false_ne_true
  | str i =>
    obtain ⟨t, rfl⟩ := rx
    cases y with
    | non => cases ry; exact PySem.EqNone.eq_str_none (fin_bl I q (by simp))
    | bl j => cases ry; exact PySem.EqMixed.eq_str_bool (fin_bl I q (by simp))
    | int j => obtain ⟨t', rfl⟩ := ry; exact PySem.EqMixed.eq_str_int (fin_bl I q (by simp))
    | str j => obtain ⟨t', rfl⟩ := ry; exact eq_str (fin_bl I q dec_str)
    | _ => exact absurd (show false = true from hs) Bool.false_ne_true
  | byt i =>
    obtain ⟨t, rfl⟩ := rx
    cases y with
    | byt j => obtain ⟨t', rfl⟩ := ry; exact PySem.W.eq_bytes (fin_bl I q dec_byt)
    | _ => exact absurd (show false = true from hs) Bool.false_ne_true
  | _ => cases y <;> exact absurd (show false = true from hs) Bool.false_ne_true
theorem op_ne : OpR X (compareOp .NotEq) rNe := by
  intro pins s σ H x y v u Q I rx ry h
  obtain ⟨hs, q⟩ := h
  cases x with
  | non =>
    cases rx
    cases y with
    | non => cases ry; exact PySem.EqNone.ne_none_none (fin_bl I q (by simp))
    | bl j => cases ry; exact PySem.EqNone.ne_none_bool (fin_bl I q (by simp))
    | int j => obtain ⟨t', rfl⟩ := ry; exact PySem.EqNone.ne_none_int (fin_bl I q (by simp))
    | str j => obtain ⟨t', rfl⟩ := ry; exact PySem.EqNone.ne_none_str (fin_bl I q (by simp))
    | _ => exact absurd (show false = true from hs) Bool.false_ne_true
  | bl i =>
    cases rx
    cases y with
    | non => cases ry; exact PySem.EqNone.ne_bool_none (fin_bl I q (by simp))
    | bl j => cases ry; exact ne_bool (fin_bl I q (congrArg not dec_bl))
    | str j => obtain ⟨t', rfl⟩ := ry; exact PySem.EqMixed.ne_bool_str (fin_bl I q (by simp))
    | _ => exact absurd (show false = true from hs) Bool.false_ne_true
  | int i =>
    obtain ⟨t, rfl⟩ := rx
    cases y with
    | non => cases ry; exact PySem.EqNone.ne_int_none (fin_bl I q (by simp))
    | int j => obtain ⟨t', rfl⟩ := ry; exact ne_int (fin_bl I q (congrArg not dec_int))
    | str j => obtain ⟨t', rfl⟩ := ry; exact PySem.EqMixed.ne_int_str (fin_bl I q (by simp))
    | _ => exact absurd (show false = true from hs) Bool.false_ne_true
  | str i =>
    obtain ⟨t, rfl⟩ := rx
    cases y with
    | non => cases ry; exact PySem.EqNone.ne_str_none (fin_bl I q (by simp))
    | bl j => cases ry; exact PySem.EqMixed.ne_str_bool (fin_bl I q (by simp))
    | int j => obtain ⟨t', rfl⟩ := ry; exact PySem.EqMixed.ne_str_int (fin_bl I q (by simp))
    | str j => obtain ⟨t', rfl⟩ := ry; exact ne_str (fin_bl I q (congrArg not dec_str))
    | _ => exact absurd (show false = true from hs) Bool.false_ne_true
  | byt i =>
    obtain ⟨t, rfl⟩ := rx
    cases y with
    | byt j => obtain ⟨t', rfl⟩ := ry; exact PySem.W.ne_bytes (fin_bl I q (congrArg not dec_byt))
    | _ => exact absurd (show false = true from hs) Bool.false_ne_true
  | _ => cases y <;> exact absurd (show false = true from hs) Bool.false_ne_true

theorem op_lt : OpR X (compareOp .Lt) (rI0 fun i j => .bl (decide (i < j))) := opB0 fun _ _ _ _ _ _ _ q => lt_int q
theorem op_le : OpR X (compareOp .LtE) (rI0 fun i j => .bl (decide (i ≤ j))) := opB0 fun _ _ _ _ _ _ _ q => le_int q
theorem op_gt : OpR X (compareOp .Gt) (rI0 fun i j => .bl (decide (j < i))) := opB0 fun _ _ _ _ _ _ _ q => gt_int q
theorem op_ge : OpR X (compareOp .GtE) (rI0 fun i j => .bl (decide (j ≤ i))) := opB0 fun _ _ _ _ _ _ _ q => ge_int q
/-- is None, is not None: the right side a value none -/
theorem op_isN : OpR X (compareOp .Is) (fun x y H Q => y = .non ∧ Q (.bl (decide (x = .non))) H) := by
  intro pins s σ H x y v u Q I rx ry h
  obtain ⟨rfl, q⟩ := h
  cases ry
  refine is_none_gen (fin_bl I q ?_)
  cases x <;> first
    | (cases rx; rfl)
    | (obtain ⟨t, rfl⟩ := rx; rfl)
/-- two rules for one operation: by cases -/
theorem OpR.or {f : Value → Value → Sem Value} {r r' : R2} (h : OpR X f r) (h' : OpR X f r') : OpR X f (fun x y H Q => r x y H Q ∨ r' x y H Q) := by
  intro pins s σ H x y v u Q I rx ry q
  rcases q with q | q
  · exact h pins s σ H x y v u Q I rx ry q
  · exact h' pins s σ H x y v u Q I rx ry q

theorem nomark (b : Expr) {op : CmpOp} (h : op ≠ .In := by decide) (h2 : op ≠ .NotIn := by decide) : behindInMarks op b = false := by
  have e1 : (op == CmpOp.In) = false := by cases op <;> first | rfl | exact absurd rfl h
  have e2 : (op == CmpOp.NotIn) = false := by cases op <;> first | rfl | exact absurd rfl h2
  cases b <;> simp [behindInMarks, e1, e2]
/-- a comparison as a value; hm: nomark b, or (for in, not in) by with_unfolding_all rfl -/
theorem pe_cmpR {op : CmpOp} {r : R2} (ho : OpR X (compareOp op) r) (ha : PE X a ta) (hb : PE X b tb) (hm : behindInMarks op b = false) : PE X (.Compare a [op] [b] pos) (tOp r ta tb) := by
  intro pins s σ H Q I h
  exact wpAny_Compare1 (binT ha hb I h fun v u s2 x y H2 I2 rx ry q => ho pins s2 σ H2 x y v u Q I2 rx ry q) hm
/-- a reading of a value as a test -/
def tTest (t : TE) : TT := fun σ H Q => t σ H fun x H' => ∃ k, x = .bl k ∧ Q k H'
theorem pt_cmpR {op : CmpOp} {r : R2} (ho : OpR X (compareOp op) r) (ha : PE X a ta) (hb : PE X b tb) (hm : behindInMarks op b = false) : PT X (.Compare a [op] [b] pos) (tTest (tOp r ta tb)) := by
  intro pins s σ H Q I h
  refine wpAny_isTrue_Compare1 (thn (ha pins s σ H _ I h) fun v s1 ⟨x, H1, I1, r1, q1⟩ => thn (hb pins s1 σ H1 _ I1 q1) fun u s2 ⟨y, H2, I2, r2, q2⟩ =>
    thn (ho pins s2 σ H2 x y v u _ I2 r1 r2 q2) fun c s3 ⟨z, H3, I3, r3, k, e, q3⟩ => ?_) hm
  subst e
  cases r3
  exact wpAny_truthy_bool ⟨H3, I3, q3⟩
/-! ### truth -/
/-- a value's truth by the abstract heap -/
def TruV (K : PySem.W.Frag) (x : V) (H : Hp) (k : Bool) : Prop :=
  match x with
  | .non => k = false
  | .bl b => k = b
  | .int i => k = (i != 0)
  | .str y => y.length ≤ sizeLine ∧ k = ((y.length : Int) != 0)
  | .byt y => y.size ≤ sizeLine ∧ k = ((y.size : Int) != 0)
  | .ref p => (∃ xs, SqL K H p xs ∧ k = !xs.isEmpty) ∨ (∃ xs, SqT K H p xs ∧ k = !xs.isEmpty) ∨ ∃ kvs, H p = some (.dK kvs) ∧ k = !kvs.isEmpty
  | _ => False
theorem isEmpty_kv {κ : Type} {kvs : List (κ × V)} {vs : List (κ × Value)} (r : KV kvs vs) : (!vs.isEmpty) = !kvs.isEmpty := by
  cases r <;> rfl
theorem isEmpty_of {xs : List V} {its : List Value} (r : Vals xs its) : (!its.toArray.isEmpty) = !xs.isEmpty := by
  cases r <;> simp
theorem line63 : (sizeLine : Nat) < 2 ^ 63 := by rw [sizeLine_eq]; decide
theorem tru_ok : TruR X (fun x H Q => ∃ k, TruV X.K x H k ∧ Q k H) := by
  intro pins s σ H x v Q I rx h
  obtain ⟨k, e, q⟩ := h
  have hl := line63
  have hs : sizeLine = 16777216 := sizeLine_eq
  cases x with
  | non =>
    cases rx
    have e' : k = false := e
    subst e'
    exact truthy_none ⟨H, I, q⟩
  | bl b =>
    cases rx
    have e' : k = b := e
    subst e'
    exact wpAny_truthy_bool ⟨H, I, q⟩
  | int i =>
    obtain ⟨t, rfl⟩ := rx
    have e' : k = (i != 0) := e
    subst e'
    exact PySem.P.truthy_int ⟨H, I, q⟩
  | str y =>
    obtain ⟨t, rfl⟩ := rx
    obtain ⟨hy, e'⟩ : y.length ≤ sizeLine ∧ k = ((y.length : Int) != 0) := e
    subst e'
    exact PySem.P.truthy_str (by omega) ⟨H, I.tok _, q⟩
  | byt y =>
    obtain ⟨t, rfl⟩ := rx
    obtain ⟨hy, e'⟩ : y.size ≤ sizeLine ∧ k = ((y.size : Int) != 0) := e
    subst e'
    exact PySem.W.truthy_bytes (by omega) ⟨H, I.tok _, q⟩
  | ref p =>
    cases rx
    have e' : (∃ xs, SqL X.K H p xs ∧ k = !xs.isEmpty) ∨ (∃ xs, SqT X.K H p xs ∧ k = !xs.isEmpty) ∨ ∃ kvs, H p = some (.dK kvs) ∧ k = !kvs.isEmpty := e
    rcases e' with ⟨xs, hx, e'⟩ | ⟨xs, hx, e'⟩ | ⟨kvs, hx, e'⟩
    · subst e'
      obtain ⟨its, r, pl, hz⟩ := I.list hx
      have hlen := r.length
      exact wpAny_truthy_list pl.isList (by simp only [List.size_toArray]; omega) ⟨H, I.tok _, by rw [isEmpty_of r]; exact q⟩
    · subst e'
      obtain ⟨its, r, pl, hz⟩ := I.tuple hx
      have hlen := r.length
      exact truthy_tuple pl (by simp only [List.size_toArray]; omega) ⟨H, I.tok _, by rw [isEmpty_of r]; exact q⟩
    · subst e'
      obtain ⟨hz, hS, vs, r, m⟩ : kvs.length ≤ sizeLine ∧ (p == sysModules) = false ∧ ∃ vs, KV kvs vs ∧ s.heap.DictOf (mixKind X.prog X.w) p vs := I.hok p _ hx
      have hlen : kvs.length = vs.length := Paired.length r
      exact wpAny_truthy_dict hS m (by omega) ⟨H, I.tok _, by rw [isEmpty_kv r]; exact q⟩
  | _ => exact (show False from e).elim
/-- any expression whose test is its value's truth (a name, a call, a subscript, a field ..: he by fun _ => rfl) -/
theorem pt_truth (ha : PE X a ta) (he : ∀ whole, isTrue a X.env whole = (do let v ← whole; standAt a.pos; holding [v] (truthy v))) :
    PT X a (fun σ H Q => ta σ H fun x H' => ∃ k, TruV X.K x H' k ∧ Q k H') := by
  intro pins s σ H Q I h
  exact isTrue_plain (thn (ha pins s σ H _ I h) fun v s1 ⟨x, H1, I1, r1, q1⟩ => tru_ok pins s1 σ H1 x v Q I1 r1 q1) (he _)

/-! ### strs and bytes -/
/-! ### scalar builtins, by CallR -/
theorem vals1 {x : V} {us : List Value} (r : Vals [x] us) : ∃ u, us = [u] ∧ RelV x u := by
  cases r with
  | cons r1 r2 => cases r2; exact ⟨_, rfl, r1⟩
theorem vals2 {x y : V} {us : List Value} (r : Vals [x, y] us) : ∃ u w', us = [u, w'] ∧ RelV x u ∧ RelV y w' := by
  cases r with
  | cons r1 r2 =>
    cases r2 with
    | cons r3 r4 => cases r4; exact ⟨_, _, rfl, r1, r3⟩
theorem call_abs : CallR X (.builtin "abs") (fun xs H Q => ∃ i, xs = [.int i] ∧ Q (.int (if i < 0 then -i else i)) H) := by
  intro pins s σ H xs us Q I r h
  obtain ⟨i, rfl, q⟩ := h
  obtain ⟨u, rfl, t, rfl⟩ := vals1 r
  exact call_abs_int fun u tk => ⟨.int (if i < 0 then -i else i), H, I.tok _, ⟨_, rfl⟩, q⟩
theorem call_max2 (hc : X.calm = true) : CallR X (.builtin "max") (fun xs H Q => ∃ i j, xs = [.int i, .int j] ∧ Q (.int (if j > i then j else i)) H) := by
  intro pins s σ H xs us Q I r h
  obtain ⟨i, j, rfl, q⟩ := h
  obtain ⟨u, w', rfl, ⟨t, rfl⟩, ⟨t', rfl⟩⟩ := vals2 r
  refine max_two_ints (I.ok.hd hc) fun h' tk k => ⟨_, H, I.kept k, ?_, q⟩
  by_cases hj : j > i
  · rw [if_pos hj, if_pos hj]; exact ⟨_, rfl⟩
  · rw [if_neg hj, if_neg hj]; exact ⟨_, rfl⟩
theorem call_min2 (hc : X.calm = true) : CallR X (.builtin "min") (fun xs H Q => ∃ i j, xs = [.int i, .int j] ∧ Q (.int (if j < i then j else i)) H) := by
  intro pins s σ H xs us Q I r h
  obtain ⟨i, j, rfl, q⟩ := h
  obtain ⟨u, w', rfl, ⟨t, rfl⟩, ⟨t', rfl⟩⟩ := vals2 r
  refine min_two_ints (I.ok.hd hc) fun h' tk k => ⟨_, H, I.kept k, ?_, q⟩
  by_cases hj : j < i
  · rw [if_pos hj, if_pos hj]; exact ⟨_, rfl⟩
  · rw [if_neg hj, if_neg hj]; exact ⟨_, rfl⟩
end
end L2

namespace L2
open PySem PySem.Spec PyProof.Rows

/-! ### an instance, its attributes a map -/
structure ObjM (h : Heap) (x dx C : Addr) (mA : Str → Option Value) : Prop where
  obj : h.get? x = some (PySem.W.instObj C dx)
  ns : h.Ns1 dx mA
  ne : dx ≠ x

theorem lookIn_ns {h : Heap} {dx : Addr} {mA : Str → Option Value} (n : h.Ns1 dx mA) : ∃ od, h.get? dx = some od ∧ ∀ name, PySem.W.lookIn name od = some (mA name) := by
  obtain ⟨o, es, ep, ho, hd, hk, _, hm⟩ := n
  refine ⟨o, ho, fun name => ?_⟩
  have e := hm name
  unfold nsFind findBy at e
  rw [← Array.find?_toList] at e
  unfold PySem.W.lookIn
  rw [hd]
  dsimp only
  split
  · rename_i y q
    rw [q] at e
    exact congrArg some e
  · rename_i q
    rw [q] at e
    have a : es.toList.any (·.refKey) = false := by
      rw [List.any_eq_false]
      intro y hy
      obtain ⟨z, t, hkey⟩ := hk y (Array.mem_toList_iff.mp hy)
      simp [DictEntry.refKey, hkey]
    have a' : ¬ es.toList.any (·.refKey) = true := by rw [a]; exact Bool.false_ne_true
    rw [if_neg a']
    exact congrArg some e

theorem ObjM.look {h : Heap} {x dx C : Addr} {mA : Str → Option Value} (I : ObjM h x dx C mA) : ∃ od, PySem.W.InstAt h x (PySem.W.instObj C dx) C (some od) ∧ ∀ name, PySem.W.lookIn name od = some (mA name) :=
  let ⟨od, ho, hl⟩ := lookIn_ns I.ns
  ⟨od, ⟨I.obj, rfl, rfl, ho⟩, hl⟩

section
variable {prog : Program} {w : World} {A : Around} {E : Value → Shared → Prop} {s : Shared} {K : PySem.W.Frag} {x dx C f : Addr} {mA : Str → Option Value} {name : Str} {v : Value}

theorem get_map {expr : Bool} {Q : Value → Shared → Prop} (X : K.In s.heap) (I : ObjM s.heap x dx C mA) (hg : PySem.W.plainGet K C name = true) (hh : PySem.W.hasDictIn K C = true)
    (ha : PySem.W.findIn K (.ref C) name = some none) (hv : mA name = some v) (hv' : PySem.W.handedIn v = true) (h : Q v { s with toks := s.toks + 1 }) :
    wpAny (model prog w) A (getAttr (.ref x) name expr) Q E s := by
  obtain ⟨od, J, hl⟩ := I.look
  exact PySem.W.get_value X J (PySem.W.plainGet_of hg).1 (PySem.W.findObj_own hh ha rfl (by rw [hl, hv])) hv' h

theorem set_map {ns : List Str} {Q : Unit → Shared → Prop} (X : K.In s.heap) (I : ObjM s.heap x dx C mA)
    (hs : PySem.W.findIn K (.ref C) "__setattr__" = some (some (.builtin "object.__setattr__"))) (hp : PySem.W.plainOver K C = true) (ht : PySem.W.takerIn K C name = some none) (hh : PySem.W.hasDictIn K C = true)
    (hw : PySem.Within mA ns) (hsz : ns.length ≤ sizeLine)
    (h : ∀ h', ObjM h' x dx C (fun y => if y = name then some v else mA y) → Heap.SameBut dx s.heap h' → Q () { s with heap := h', toks := s.toks + 2 }) :
    wpAny (model prog w) A (setAttr (.ref x) name v) Q E s := by
  obtain ⟨od, J, hl⟩ := I.look
  refine PySem.W.set_plain X J hs (PySem.W.osa_open (s := { s with toks := s.toks + 1 }) (r := none) X J hp ht fun b => ?_)
  obtain ⟨cd, hc, hd'⟩ := PySem.W.any_some hh
  have hx : s.heap.get? x = some ⟨.ref C, some dx, .plain, #[]⟩ := I.obj
  refine wpAny_bind (wpAny_pure (wpAny_bind (wpAny_bind (wpAny_loadPart hx (wpAny_bind (PySem.W.Looks.here (s := { s with toks := s.toks + 1 }) (PySem.W.looks_clsIn X hc) ?_))))))
  rw [hd']
  refine wpAny_pure (a := some dx) (wpAny_bind (wpAny_pure (wpAny_bind ?_)))
  refine wpAny_nsSet1 (s := { s with toks := s.toks + 1 }) I.ns fun h' hn2 hs2 => ?_
  obtain ⟨oD, esD, epD, hoD, hdD, hcD⟩ := hn2.count (PySem.Within.cons name v hw)
  refine wpAny_bind (wpAny_lookBehind hoD (by rw [hdD]; exact pastItsLine_dict (Nat.le_trans hcD (by rw [List.length_cons]; omega))) ?_)
  exact wpAny_pure (h _ ⟨(hs2.2 _ (Ne.symm I.ne)).trans I.obj, hn2, I.ne⟩ hs2)

/-- C(..): the dict at the heap's end, the instance behind it; then its __init__ -/
theorem make_map {R : Result → Shared → Prop} {vs : List Value} {kw : List (Str × Value)} (X : K.In s.heap) (hm : PySem.W.makesIn K C = true)
    (hi : PySem.W.findIn K (.ref C) "__init__" = some (some (.ref f))) (hf : PySem.W.typeIn K (.ref f) = some (.type "function"))
    (h : codeAny (model prog w) (A.under (.builtin "type.__call__" ⟨.ref C :: vs, kw⟩)) (.call (.ref f) ⟨.ref (s.heap.objs.size + 1) :: vs, kw⟩) (PySem.W.InitBack (s.heap.objs.size + 1) R)
      { s with heap := (s.heap.push PySem.W.emptyDict).push (PySem.W.instObj C s.heap.objs.size) }) :
    codeAny (model prog w) A (.call (.ref C) ⟨vs, kw⟩) R s := by
  obtain ⟨hh, g, d, t, os⟩ := s
  exact PySem.W.make_core (PySem.W.makes_of X hm) (PySem.W.looks_findIn X hi) (fun self => PySem.W.bind_fn X self hf) (.inl rfl) h
end

/-! ### the attributes as a list of pairs -/
def putF (f : Str) (v : V) : List (Str × V) → List (Str × V)
  | [] => [(f, v)]
  | (g, x) :: r => if g = f then (g, v) :: r else (g, x) :: putF f v r
theorem lookup_putF (f g : Str) (v : V) : ∀ fs : List (Str × V), (putF f v fs).lookup g = if g = f then some v else fs.lookup g
  | [] => by
    show List.lookup g [(f, v)] = _
    by_cases h : g = f
    · have hb : (g == f) = true := beq_iff_eq.mpr h
      simp only [List.lookup, hb, if_pos h]
    · have hb : (g == f) = false := beq_eq_false_iff_ne.mpr h
      simp only [List.lookup, hb, if_neg h]
  | (k, x) :: r => by
    have ih := lookup_putF f g v r
    rw [show putF f v ((k, x) :: r) = (if k = f then (k, v) :: r else (k, x) :: putF f v r) from rfl]
    by_cases hk : k = f
    · rw [if_pos hk]
      by_cases h : g = k
      · have hb : (g == k) = true := beq_iff_eq.mpr h
        simp only [List.lookup, hb, if_pos (h.trans hk)]
      · have hb : (g == k) = false := beq_eq_false_iff_ne.mpr h
        simp only [List.lookup, hb, if_neg (fun e : g = f => h (e.trans hk.symm))]
    · rw [if_neg hk]
      by_cases h : g = k
      · have hb : (g == k) = true := beq_iff_eq.mpr h
        simp only [List.lookup, hb, if_neg (fun e : g = f => hk (h.symm.trans e))]
      · have hb : (g == k) = false := beq_eq_false_iff_ne.mpr h
        simp only [List.lookup, hb]
        exact ih
theorem keys_putF (f : Str) (v : V) : ∀ fs : List (Str × V), f ∈ (putF f v fs).map (·.1) ∧ ∀ g, g ∈ fs.map (·.1) → g ∈ (putF f v fs).map (·.1)
  | [] => ⟨by simp [putF], fun g h => by simp at h⟩
  | (k, x) :: r => by
    obtain ⟨i1, i2⟩ := keys_putF f v r
    rw [show putF f v ((k, x) :: r) = (if k = f then (k, v) :: r else (k, x) :: putF f v r) from rfl]
    by_cases hk : k = f
    · rw [if_pos hk]
      subst hk
      exact ⟨by simp, fun g h => by simpa using h⟩
    · rw [if_neg hk]
      refine ⟨?_, fun g h => ?_⟩
      · rw [List.map_cons]
        exact List.mem_cons_of_mem _ i1
      · rw [List.map_cons] at h ⊢
        rcases List.mem_cons.mp h with e | e
        · exact List.mem_cons.mpr (.inl e)
        · exact List.mem_cons_of_mem _ (i2 g e)
theorem length_putF (f : Str) (v : V) : ∀ fs : List (Str × V), (putF f v fs).length ≤ fs.length + 1
  | [] => by simp [putF]
  | (k, x) :: r => by
    have ih := length_putF f v r
    rw [show putF f v ((k, x) :: r) = (if k = f then (k, v) :: r else (k, x) :: putF f v r) from rfl]
    by_cases hk : k = f
    · rw [if_pos hk, List.length_cons, List.length_cons]; omega
    · rw [if_neg hk, List.length_cons, List.length_cons]; omega

theorem RelO.some_of {v : V} {o : Option Value} (r : RelO (some v) o) : ∃ u, o = some u ∧ RelV v u := by
  cases o with
  | none => exact (show False from r).elim
  | some u => exact ⟨u, rfl, r⟩
theorem handed_of {v : V} {u : Value} (r : RelV v u) : PySem.W.handedIn u = true := by
  cases v with
  | non => cases (show u = Value.none from r); rfl
  | bl b => cases (show u = Value.bool b from r); rfl
  | int i => obtain ⟨t, e⟩ := (show ∃ t, u = Value.int i t from r); cases e; rfl
  | str x => obtain ⟨t, e⟩ := (show ∃ t, u = Value.str x t from r); cases e; rfl
  | byt b => obtain ⟨t, e⟩ := (show ∃ t, u = Value.bytes b t from r); cases e; rfl
  | flt b => obtain ⟨t, e⟩ := (show ∃ t, u = Value.float b t from r); cases e; rfl
  | ref a => cases (show u = Value.ref a from r); rfl
  | ty n => cases (show u = Value.type n from r); rfl

section
variable {P : Program} {w : World} {H H' : Hp} {h h' : Heap} {a C dx : Addr} {fs fs' : List (Str × V)}
theorem ins_get (hok : HOk P w H h) (e : H a = some (.ins C dx fs)) : ∃ mA, ObjM h a dx C mA ∧ (∀ f, RelO (fs.lookup f) (mA f)) ∧ PySem.Within mA (fs.map (·.1)) ∧ fs.length ≤ 1000 ∧ H dx = some (.own a) := by
  obtain ⟨d, z, ne, ob, mA, n, r, q⟩ := (show ObjOk P w H h a (.ins C dx fs) from hok a _ e)
  exact ⟨mA, ⟨ob, n, ne⟩, r, q, z, d⟩
end

/-! ### what of the text a class must have -/
structure Cls (K : PySem.W.Frag) (C : Addr) : Prop where
  pg : PySem.W.plainGet K C Str.empty = true
  hd : PySem.W.hasDictIn K C = true
  po : PySem.W.plainOver K C = true
  sa : PySem.W.findIn K (.ref C) "__setattr__" = some (some (.builtin "object.__setattr__"))
theorem Cls.get {K : PySem.W.Frag} {C : Addr} (c : Cls K C) (f : Str) : PySem.W.plainGet K C f = true := c.pg
/-- no class of it has the name -/
def NoAttr (K : PySem.W.Frag) (C : Addr) (f : Str) : Prop := PySem.W.findIn K (.ref C) f = some none
theorem NoAttr.taker {K : PySem.W.Frag} {C : Addr} {f : Str} (n : NoAttr K C f) : PySem.W.takerIn K C f = some none := by
  unfold PySem.W.takerIn
  rw [show PySem.W.findIn K (.ref C) f = some none from n]
  rfl
/-- a constant of the class -/
structure Con (K : PySem.W.Frag) (C : Addr) (f : Str) (v : V) (u : Value) : Prop where
  at_ : PySem.W.findIn K (.ref C) f = some (some u)
  rel : RelV v u
  get : PySem.W.specialIn K u "__get__" = some none
  cp : PySem.W.copiedNames.contains f = false
/-- a method: a plain def of the class or of one above it -/
structure Meth (K : PySem.W.Frag) (C : Addr) (m : Str) (f : Addr) : Prop where
  at_ : PySem.W.findIn K (.ref C) m = some (some (.ref f))
  fn : PySem.W.isFn K (.ref f) = true
  kp : PySem.W.keepIn K (.ref f) = true

section
variable {X : Cx} {pins : List (Addr × Obj)} {σ : St} {H : Hp} {s : Shared} {a C dx : Addr} {fs : List (Str × V)} {f : Str} {v : V} {A : Around} {E : Value → Shared → Prop}

theorem getattr_ok {b : Bool} {Q : Value → Shared → Prop} (I : Inv X pins σ H s) (e : H a = some (.ins C dx fs)) (c : Cls X.K C) (n : NoAttr X.K C f) (l : fs.lookup f = some v)
    (h : ∀ u s', Inv X pins σ H s' → RelV v u → Q u s') : wpAny (model X.prog X.w) A (getAttr (.ref a) f b) Q E s := by
  obtain ⟨mA, O, r, _, _, _⟩ := ins_get I.hok e
  obtain ⟨u, hu, ru⟩ := RelO.some_of (v := v) (o := mA f) (by rw [← l]; exact r f)
  exact get_map I.kIn O (c.get f) c.hd n hu (handed_of ru) (h u _ (I.tok _) ru)

theorem setattr_ok {y : V} {u : Value} {Q : Unit → Shared → Prop} (I : Inv X pins σ H s) (e : H a = some (.ins C dx fs)) (c : Cls X.K C) (n : NoAttr X.K C f) (hl : fs.length < 1000) (ry : RelV y u)
    (h : ∀ s', Inv X pins σ (upd H a (.ins C dx (putF f y fs))) s' → Q () s') : wpAny (model X.prog X.w) A (setAttr (.ref a) f u) Q E s := by
  obtain ⟨mA, O, r, wi, _, ho⟩ := ins_get I.hok e
  have hz : (fs.map (·.1)).length ≤ sizeLine := by rw [List.length_map, sizeLine_eq]; omega
  refine set_map I.kIn O c.sa c.po n.taker c.hd wi hz fun h' O' sb => h _ ?_
  have hd : ∃ o, h'.get? dx = some o := let ⟨o, _, _, e', _⟩ := O'.ns; ⟨o, e'⟩
  refine I.write (x := a) (e := dx) (by rw [e]; exact True.intro) (.inr ho) (fun b q hb z => (sb.2 b hb).trans z) hd ?_
  refine ⟨by rw [upd_ne O.ne]; exact ho, ?_, O.ne, O'.obj, _, O'.ns, fun g => ?_, fun g hg => ?_⟩
  · have := length_putF f y fs; omega
  · show RelO ((putF f y fs).lookup g) (if g = f then some u else mA g)
    rw [lookup_putF]
    by_cases q : g = f
    · rw [if_pos q, if_pos q]; exact ry
    · rw [if_neg q, if_neg q]; exact r g
  · by_cases q : g = f
    · rw [q]; exact (keys_putF f y fs).1
    · refine (keys_putF f y fs).2 g (wi g fun z => hg ?_)
      show (if g = f then some u else mA g) = none
      rw [if_neg q]; exact z

/-- a new instance, tracked, without attributes -/
theorem Inv.made (I : Inv X pins σ H s) : Inv X pins σ (upd (upd H s.heap.objs.size (.own (s.heap.objs.size + 1))) (s.heap.objs.size + 1) (.ins C s.heap.objs.size []))
    { s with heap := (s.heap.push PySem.W.emptyDict).push (PySem.W.instObj C s.heap.objs.size) } := by
  have e1 : (s.heap.push PySem.W.emptyDict).get? s.heap.objs.size = some PySem.W.emptyDict := Heap.get?_push_size s.heap rfl
  have e2 : ((s.heap.push PySem.W.emptyDict).push (PySem.W.instObj C s.heap.objs.size)).get? (s.heap.objs.size + 1) = some (PySem.W.instObj C s.heap.objs.size) := by
    have := Heap.get?_push_size (s.heap.push PySem.W.emptyDict) (o := PySem.W.instObj C s.heap.objs.size) rfl
    rwa [Heap.size_push] at this
  have e3 : (s.heap.push PySem.W.emptyDict).Ns s.heap.objs.size (fun _ => none) := ⟨PySem.W.emptyDict, #[], _, e1, rfl, (fun e he => absurd he (by simp)), fun _ => rfl⟩
  have I1 := I.laid (a := s.heap.objs.size) (o := .own (s.heap.objs.size + 1)) (h' := s.heap.push PySem.W.emptyDict) (t' := s.toks) (fun b u q => Heap.get?_push_of_some _ q) (Nat.le_refl _) ⟨_, e1⟩
  refine I1.laid (a := s.heap.objs.size + 1) (o := .ins C s.heap.objs.size []) (t' := s.toks) (fun b u q => Heap.get?_push_of_some _ q) (Nat.le_of_eq (Heap.size_push _ _)) ?_
  have ne : s.heap.objs.size ≠ s.heap.objs.size + 1 := Nat.ne_of_lt (Nat.lt_succ_self _)
  refine ⟨by rw [upd_ne ne, upd_same], Nat.zero_le _, ne, e2, fun _ => none, (Heap.Ns1.of_empty e3).at fun o q => Heap.get?_push_of_some _ q, fun _ => True.intro, fun y hy => absurd rfl hy⟩

/-- e.f where nothing but the object is asked: through attributeBase (super) and the last hold -/
theorem attr_of {prog : Program} {w : World} {env : Env} {e : Expr} {f : Str} {pos : Pos} {s : Shared} {Q : Value → Shared → Prop} (hb : attributeBase e f env (eval e env) = eval e env)
    (h : wpAny (model prog w) A (eval e env) (fun o s₁ => wpAny (model prog w) A (getAttr o f true) Q E s₁) E s) : wpAny (model prog w) A (eval (.Attribute e f pos) env) Q E s :=
  Attribute_any_ h (by rw [arm_eval_Attribute, hb])
end

/-! ### readings and rules -/
/-- e.f, an attribute of the instance -/
def tFld (K : PySem.W.Frag) (ta : TE) (f : Str) : TE := fun σ H Q => ta σ H fun x H1 => ∃ a C dx fs v, x = .ref a ∧ H1 a = some (.ins C dx fs) ∧ Cls K C ∧ NoAttr K C f ∧ fs.lookup f = some v ∧ Q v H1
/-- e.f = value -/
def sFld (K : PySem.W.Frag) (ta tv : TE) (f : Str) : TS := fun D σ H => tv σ H fun y H1 => ta σ H1 fun x H2 => ∃ a C dx fs, x = .ref a ∧ H2 a = some (.ins C dx fs) ∧ Cls K C ∧ NoAttr K C f ∧ fs.length < 1000 ∧
  D.nx σ (upd H2 a (.ins C dx (putF f y fs)))
section
variable {X : Cx} {o e value : Expr} {f : Str} {pos pos' tpos : Pos} {ta tv : TE}
theorem pe_fld (he : PE X e ta) (hb : attributeBase e f X.env (eval e X.env) = eval e X.env) : PE X (.Attribute e f pos) (tFld X.K ta f) := by
  intro pins s σ H Q I h
  refine attr_of hb (thn (he pins s σ H _ I h) fun u s1 ⟨x, H1, I1, rx, a, C, dx, fs, v, ex, ea, c, n, l, q⟩ => ?_)
  subst ex
  obtain rfl : u = Value.ref a := rx
  exact getattr_ok I1 ea c n l fun u' s2 I2 ru => ⟨v, H1, I2, ru, q⟩
theorem ps_fld (ha : PE X o ta) (hv : PE X value tv) (hs : swapsWith value (some (.Attribute o f pos')) pos.line X.env = pure false) : PS X (.Assign [.Attribute o f pos'] value pos) (sFld X.K ta tv f) := by
  intro pins s σ H D I h
  refine plainObj_wpAny_Assign_Attribute (thn (hv pins s σ H _ I h) fun u s1 ⟨y, H1, I1, ry, q⟩ => thn (ha pins s1 σ H1 _ I1 q) fun ov s2 ⟨x, H2, I2, rx, a, C, dx, fs, ex, ea, c, n, l, q2⟩ => ?_) hs
  subst ex
  obtain rfl : ov = Value.ref a := rx
  exact setattr_ok I2 ea c n l ry fun s3 I3 => ⟨σ, _, I3, q2⟩
end

/-! ### isinstance -/
section
variable {X : Cx} {pins : List (Addr × Obj)} {σ : St} {H : Hp} {s : Shared} {A : Around} {E : Value → Shared → Prop} {Q : Value → Shared → Prop} {c : Value} {b : Bool}
/-- the type of a value, as the fragment's deciders take it; for an instance its class -/
inductive TyOf (K : PySem.W.Frag) (H : Hp) : V → Value → Prop where
  | non : TyOf K H .non (.type "NoneType")
  | bl (x : Bool) : TyOf K H (.bl x) (.type "bool")
  | int (i : Int) : TyOf K H (.int i) (.type "int")
  | str (x : Str) : TyOf K H (.str x) (.type "str")
  | flt (x : UInt64) : TyOf K H (.flt x) (.type "float")
  | lst {a : Addr} {xs : List V} (e : H a = some (.lst xs)) : TyOf K H (.ref a) (.type "list")
  | frz {a : Addr} {o : Obj} {xs : List V} (e : H a = some (.frz o (.lst xs))) : TyOf K H (.ref a) (.type "list")
  | tup {a : Addr} {xs : List V} (e : H a = some (.tup xs)) : TyOf K H (.ref a) (.type "tuple")
  | dK {a : Addr} {kvs : List (Key × V)} (e : H a = some (.dK kvs)) : TyOf K H (.ref a) (.type "dict")
  | dT {a : Addr} {kvs : List (List Key × V)} (e : H a = some (.dT kvs)) : TyOf K H (.ref a) (.type "dict")
  | ins {a C dx : Addr} {fs : List (Str × V)} (e : H a = some (.ins C dx fs)) (cl : Cls K C) (ha : PySem.W.findIn K (.ref C) "__class__" = some (some (.builtin "object.__class__")))
      (hn : PySem.W.specialIn K (.builtin "object.__class__") "__get__" = some (some (.builtin "getset_descriptor.__get__"))) (htk : PySem.W.takesIn K (.builtin "object.__class__") = some true)
      (hm : PySem.W.mroIn K C (.type "object") = some true) : TyOf K H (.ref a) (.ref C)
end
end L2

namespace L2
open PySem PySem.Spec PyProof.Rows

/-! ### room -/
structure Room (k : Nat) (A : Around) : Prop where
  hd : A.handled = none
  dp : A.depth + 3 * k + 5 < recursionLimit
  un : A.units + 16 * k + 200 < cLine
theorem Room.mono {j k : Nat} {A : Around} (r : Room k A) (h : j ≤ k) : Room j A := ⟨r.hd, by have := r.dp; omega, by have := r.un; omega⟩
theorem Room.deeper {k : Nat} {A : Around} (r : Room (k + 1) A) (env : Env) : Room k (A.deeper env) :=
  ⟨r.hd, by have := r.dp; show A.depth + 1 + 3 * k + 5 < _; omega, by have := r.un; show A.units + 3 + 16 * k + 200 < _; omega⟩
theorem Room.in1 {k : Nat} {A : Around} (r : Room (k + 1) A) : Room k A.in1 :=
  ⟨r.hd, by have := r.dp; show A.depth + 3 * k + 5 < _; omega, by have := r.un; show A.units + 1 + 16 * k + 200 < _; omega⟩
theorem make_depth {A : Around} {C : Addr} {us : List Value} {kw : List (Str × Value)} : (A.under (.builtin "type.__call__" ⟨.ref C :: us, kw⟩)).depth = A.depth + 1 := by
  first | rfl | simp [Around.under, Code.weight, Code.isCreation, Code.isGuard, Code.isCaller, Code.frames, Code.isFrame, guardIds]
theorem make_units {A : Around} {C : Addr} {us : List Value} {kw : List (Str × Value)} : (A.under (.builtin "type.__call__" ⟨.ref C :: us, kw⟩)).units = A.units + 1 := by
  first | rfl | simp [Around.under, Code.cUnits, Code.frames, Code.isFrame]
theorem Room.make {k : Nat} {A : Around} (r : Room (k + 1) A) (C : Addr) (us : List Value) (kw : List (Str × Value)) : Room k (A.under (.builtin "type.__call__" ⟨.ref C :: us, kw⟩)) :=
  ⟨r.hd, by have := r.dp; rw [make_depth]; omega, by have := r.un; rw [make_units]; omega⟩
theorem Room.depth {k : Nat} {A : Around} (r : Room k A) : A.depth < recursionLimit := by have := r.dp; omega
/-! ### argument lists and displays -/
def tNil : TA := fun _ H Q => Q [] H
def tCons (ta : TE) (tr : TA) : TA := fun σ H Q => ta σ H fun x H1 => tr σ H1 fun xs H2 => Q (x :: xs) H2
section
variable {X : Cx} {e : Expr} {es : List Expr} {te : TE} {t : TA} {pos : Pos}
theorem pa_nil : PA X [] tNil := fun _ _ _ _ H Q I h => Calls.spliced_nil ⟨[], H, I, .nil, h⟩
theorem pa_cons (ha : PE X e te) (hr : PA X es t) (hs : starEach (e :: es) X.env = (false, eval e X.env) :: starEach es X.env := by rfl) : PA X (e :: es) (tCons te t) := by
  intro pos pins s σ H Q I h
  rw [hs]
  show wpAny _ _ (spliced ((false, eval e X.env) :: backTo pos (starEach es X.env))) _ _ s
  refine Calls.spliced_cons (thn (ha pins s σ H _ I h) fun u s1 ⟨x, H1, I1, r1, q1⟩ => ?_)
  exact thn (hr pos pins s1 σ H1 _ I1 q1) fun us s2 ⟨xs, H2, I2, r2, q2⟩ => ⟨x :: xs, H2, I2, .cons r1 r2, q2⟩

/-- a tuple, a list of written items -/
def tTup (t : TA) : TE := fun σ H Q => t σ H fun xs H1 => xs.length ≤ sizeLine ∧ ∀ p, H1 p = none → Q (.ref p) (upd H1 p (.tup xs))
def tLst (t : TA) : TE := fun σ H Q => t σ H fun xs H1 => xs.length ≤ sizeLine ∧ ∀ p, H1 p = none → Q (.ref p) (upd H1 p (.lst xs))
theorem pe_tup {x1} (h : PA X es t) : PE X (.Tuple es x1 pos) (tTup t) := by
  intro pins s σ H Q I hq
  refine wpAny_Tuple_spliced (thn (h pos pins s σ H _ I hq) fun us s1 ⟨xs, H1, I1, r, z, q⟩ => ⟨by rw [← r.length]; exact z, ?_⟩)
  have hf : H1 s1.heap.objs.size = none := I1.hok.fresh (Nat.le_refl _)
  refine ⟨.ref s1.heap.objs.size, upd H1 s1.heap.objs.size (.tup xs), I1.laid (t' := s1.toks) (fun b u e => Heap.get?_push_of_some _ e) (Nat.le_refl _) ?_, rfl, q _ hf⟩
  exact ⟨z, us, r, ⟨_, Heap.get?_push_size _ rfl, rfl, _, rfl⟩⟩
theorem pe_lst (h : PA X es t) : PE X (.List es pos) (tLst t) := by
  intro pins s σ H Q I hq
  refine wpAny_List_spliced (thn (h pos pins s σ H _ I hq) fun us s1 ⟨xs, H1, I1, r, z, q⟩ => ⟨by rw [← r.length]; exact z, ?_⟩)
  have hf : H1 s1.heap.objs.size = none := I1.hok.fresh (Nat.le_refl _)
  refine ⟨.ref s1.heap.objs.size, upd H1 s1.heap.objs.size (.lst xs), I1.laid (t' := s1.toks) (fun b u e => Heap.get?_push_of_some _ e) (Nat.le_refl _) ?_, rfl, q _ hf⟩
  exact ⟨z, us, 0, r, Heap.get?_push_size _ rfl⟩
end

/-! ### what a def promises -/
/-- a def's promise: the bound arguments in the parameters' order, the heap, the wanted end, the wanted exception -/
abbrev Sp := List V → Hp → VK → XK → Prop
/-- how an exception lies behind a call (file 08 gives it): the callers' frames, abstract heap and state ahead of the call, the wish, the exception, the state -/
abbrev CXT := List Env → Hp → Shared → XK → Value → Shared → Prop

/-- the state at a call -/
structure Env0 (P : Program) (w : World) (K : PySem.W.Frag) (mg : Str → Option Value) (base : Heap) (A : Around) (outer : List Env) (s : Shared) (H : Hp) : Prop where
  frames : A.frames = some outer
  mod : Mod K mg base
  bs : ∀ b o, base.get? b = some o → s.heap.get? b = some o ∧ H b = none
  bsz : base.objs.size ≤ s.heap.objs.size
  funs : s.heap.FunFrames base outer
  frf : ∀ b ∈ frs outer, H b = none
  hok : HOk P w H s.heap
  bare : AllBare s.gens
/-- a call's end -/
def CE (outer : List Env) (P : Program) (w : World) (H : Hp) (s : Shared) (Q : VK) (u : Value) (s' : Shared) : Prop :=
  ∃ v H', s'.os = s.os ∧ AllBare s'.gens ∧ Un (frs outer) [] H H' s.heap s'.heap ∧ HOk P w H' s'.heap ∧ RelV v u ∧ Q v H'
def CR (CX : CXT) (outer : List Env) (P : Program) (w : World) (H : Hp) (s : Shared) (Q : VK) (E : XK) (r : Result) (s' : Shared) : Prop :=
  match r with
  | .ok (.ret u) => CE outer P w H s Q u s'
  | .ok _ => False
  | .error e => CX outer H s E e s'
structure FnOk (P : Program) (w : World) (K : PySem.W.Frag) (mg : Str → Option Value) (base : Heap) (CX : CXT) (k : Nat) (f : Addr) (fd : FuncData) (ps : List Str) (sp : Sp) : Prop where
  len : ∀ vs H Q E, sp vs H Q E → vs.length = ps.length
  run : ∀ (A : Around) (outer : List Env) (s : Shared) (H : Hp) (args : Args) (us : List Value) (vs : List V) (Q : VK) (E : XK), Room k A → Env0 P w K mg base A outer s H → BindsTo s fd args (ps.zip us) → Vals vs us → sp vs H Q E →
    codeAny (model P w) A (.call (.ref f) args) (CR CX outer P w H s Q E) s
theorem FnOk.mono {P : Program} {w : World} {K : PySem.W.Frag} {mg : Str → Option Value} {base : Heap} {CX : CXT} {j k : Nat} {f : Addr} {fd : FuncData} {ps : List Str} {sp : Sp} (F : FnOk P w K mg base CX j f fd ps sp) (h : j ≤ k) :
    FnOk P w K mg base CX k f fd ps sp := ⟨F.len, fun A outer s H args us vs Q E hr => F.run A outer s H args us vs Q E (hr.mono h)⟩
theorem Env0.make {P : Program} {w : World} {K : PySem.W.Frag} {mg : Str → Option Value} {base : Heap} {A : Around} {outer : List Env} {s : Shared} {H : Hp} (e : Env0 P w K mg base A outer s H) (C : Addr) (us : List Value) (kw : List (Str × Value)) :
    Env0 P w K mg base (A.under (.builtin "type.__call__" ⟨.ref C :: us, kw⟩)) outer s H := ⟨by first | exact e.frames | (simpa [Around.under, Code.envs, Code.isFrame, pushEnvs] using e.frames), e.mod, e.bs, e.bsz, e.funs, e.frf, e.hok, e.bare⟩
theorem Env0.in1 {P : Program} {w : World} {K : PySem.W.Frag} {mg : Str → Option Value} {base : Heap} {A : Around} {outer : List Env} {s : Shared} {H : Hp} (e : Env0 P w K mg base A outer s H) :
    Env0 P w K mg base A.in1 outer s H := ⟨e.frames, e.mod, e.bs, e.bsz, e.funs, e.frf, e.hok, e.bare⟩

section
variable {X : Cx} {pins : List (Addr × Obj)} {σ : St} {H : Hp} {s s' : Shared}
/-- from a body: what a callee wants -/
theorem Inv.env0 (I : Inv X pins σ H s) : Env0 X.prog X.w X.K X.mg X.base X.A X.stack s H :=
  ⟨I.ok.frames, I.ok.mod, I.bs, Nat.le_trans I.ok.bsz I.sz, I.stack, I.stkFree, I.hok, I.bare⟩
/-- behind a call -/
theorem Inv.after {Q : VK} {u : Value} (I : Inv X pins σ H s) (h : CE X.stack X.prog X.w H s Q u s') : EP X pins σ Q u s' := by
  obtain ⟨v, H', os, bare, un, hok, r, q⟩ := h
  obtain ⟨hh, g, d, t, os'⟩ := s'
  obtain rfl : os' = s.os := os
  exact ⟨v, H', I.call (h' := hh) (g' := g) (d' := d) (t' := t) (ch := []) un hok bare (fun b z => absurd z (by simp)), r, q⟩
end

/-! ### calls -/
/-- f(..): the written arguments, then the defaults dvs; E: what is wanted of an exception -/
def tCall (sp : Sp) (dvs : List V) (E : XK) (t : TA) : TE := fun σ H Q => t σ H fun vs H1 => sp (vs ++ dvs) H1 Q E
/-- C(..): a new instance and its dict, then __init__ -/
def tMake (C : Addr) (sp : Sp) (dvs : List V) (E : XK) (t : TA) : TE := fun σ H Q => t σ H fun vs H1 => ∀ x dx, H1 x = none → H1 dx = none → dx ≠ x →
  sp (.ref x :: (vs ++ dvs)) (upd (upd H1 dx (.own x)) x (.ins C dx [])) (fun v H2 => v = .non ∧ Q (.ref x) H2) E

/-- how the parameters are bound: us the positional arguments, kw the keywords' values by name, ds the defaults that fill up -/
def Binds (K : PySem.W.Frag) (fd : FuncData) (ps : List Str) (ds : List Value) : Prop :=
  ∀ (s : Shared) (us : List Value), K.In s.heap → (us ++ ds).length = ps.length → BindsTo s fd ⟨us, []⟩ (ps.zip (us ++ ds))
/-- every parameter is given -/
theorem Binds.all {K : PySem.W.Frag} {fd : FuncData} {ps : List Str} (h : ∀ us : List Value, us.length = ps.length → bindArgs fd ⟨us, []⟩ = pure (ps.zip us)) : Binds K fd ps [] := fun s us _ hl => by
  rw [List.append_nil] at hl ⊢
  exact .of_eq (h us hl)

/-- an exception of a callee reaches what this body wants of exceptions -/
def Passes (CX : CXT) (X : Cx) (E : XK) : Prop := ∀ (pins : List (Addr × Obj)) (σ : St) (H : Hp) (s : Shared) (e : Value) (s' : Shared), Inv X pins σ H s → CX X.stack H s E e s' → X.xe e s'

section
variable {X : Cx} {CX : CXT} {k : Nat} {f C : Addr} {fd : FuncData} {ps : List Str} {sp : Sp} {dvs : List V} {ds : List Value} {E : XK} {x m : Str} {p pos apos : Pos} {e o : Expr} {es : List Expr} {ta : TE} {t : TA}

/-- the callee runs -/
theorem run_fn {pins : List (Addr × Obj)} {σ : St} {H : Hp} {s : Shared} {Q : VK} {us : List Value} {vs : List V} (F : FnOk X.prog X.w X.K X.mg X.base CX k f fd ps sp) (hr : Room k X.A) (hb : Binds X.K fd ps ds) (hd : Vals dvs ds) (hx : Passes CX X E)
    (I : Inv X pins σ H s) (r : Vals vs us) (h : sp (vs ++ dvs) H Q E) : wpAny (model X.prog X.w) X.A (call (.ref f) us) (EP X pins σ Q) X.xe s := by
  have r2 : Vals (vs ++ dvs) (us ++ ds) := r.append hd
  have hl : (us ++ ds).length = ps.length := by rw [← r2.length]; exact F.len _ _ _ _ h
  refine wpAny_call (codeAny_mono (F.run X.A X.stack s H ⟨us, []⟩ (us ++ ds) (vs ++ dvs) Q E hr I.env0 (hb s us I.kIn hl) r2 h) fun r s' hq => ?_)
  cases r with
  | error e => exact hx pins σ H s e s' I hq
  | ok fl =>
    cases fl with
    | ret u => exact I.after hq
    | next => exact False.elim hq
    | brk => exact False.elim hq
    | cont => exact False.elim hq

theorem pe_call (F : FnOk X.prog X.w X.K X.mg X.base CX k f fd ps sp) (hr : Room k X.A) (hg : Gl X x) (hm : X.mg x = some (.ref f)) (hk : PySem.W.keepIn X.K (.ref f) = true) (hb : Binds X.K fd ps ds) (hd : Vals dvs ds) (hx : Passes CX X E)
    (ha : PA X (e :: es) t) (hdb : (x == ("__debug__" : Str)) = false := by decide) (he : starEach (e :: es) X.env = (false, eval e X.env) :: starEach es X.env := by rfl) (hpl : (backTo pos (starEach es X.env)).any (·.1) = false := by rfl) :
    PE X (.Call (.Name x p) (e :: es) [] pos) (tCall sp dvs E t) := by
  intro pins s σ H Q I h
  refine wpAny_Call_Name_kw (ld_glob I hg hm ?_ hdb)
  refine PySem.W.callWith_K (h₀ := X.base) I.ok.mod.kin hk (thn (ha pos pins s σ H _ I h) fun us s1 ⟨vs, H1, I1, r, q⟩ => ⟨I1.kIn, ?_⟩) he hpl
  exact run_fn F hr hb hd hx I1 r q
theorem pe_call0 (F : FnOk X.prog X.w X.K X.mg X.base CX k f fd ps sp) (hr : Room k X.A) (hg : Gl X x) (hm : X.mg x = some (.ref f)) (hk : PySem.W.keepIn X.K (.ref f) = true) (hb : Binds X.K fd ps ds) (hd : Vals dvs ds) (hx : Passes CX X E)
    (hdb : (x == ("__debug__" : Str)) = false := by decide) : PE X (.Call (.Name x p) [] [] pos) (tCall sp dvs E tNil) := by
  intro pins s σ H Q I h
  refine wpAny_Call_Name_kw (ld_glob I hg hm ?_ hdb)
  exact PySem.W.callWith_K0 I.kIn hk (run_fn (us := []) F hr hb hd hx I .nil h)

/-- what a class must have to be made -/
structure Mk (K : PySem.W.Frag) (C f : Addr) : Prop where
  makes : PySem.W.makesIn K C = true
  init : PySem.W.findIn K (.ref C) "__init__" = some (some (.ref f))
  fn : PySem.W.isFn K (.ref f) = true
  kp : PySem.W.keepIn K (.ref C) = true

theorem run_make {pins : List (Addr × Obj)} {σ : St} {H : Hp} {s : Shared} {Q : VK} {us : List Value} {vs : List V} (M : Mk X.K C f) (F : FnOk X.prog X.w X.K X.mg X.base CX k f fd ps sp) (hr : Room (k + 1) X.A) (hb : Binds X.K fd ps ds) (hd : Vals dvs ds)
    (hx : Passes CX X E) (I : Inv X pins σ H s) (r : Vals vs us)
    (h : ∀ x dx, H x = none → H dx = none → dx ≠ x → sp (.ref x :: (vs ++ dvs)) (upd (upd H dx (.own x)) x (.ins C dx [])) (fun v H2 => v = .non ∧ Q (.ref x) H2) E) :
    wpAny (model X.prog X.w) X.A (call (.ref C) us) (EP X pins σ Q) X.xe s := by
  have hq := h (s.heap.objs.size + 1) s.heap.objs.size (I.hok.fresh (Nat.le_succ _)) (I.hok.fresh (Nat.le_refl _)) (Nat.ne_of_lt (Nat.lt_succ_self _))
  have I2 := Inv.made (C := C) I
  have r2 : Vals (V.ref (s.heap.objs.size + 1) :: (vs ++ dvs)) (Value.ref (s.heap.objs.size + 1) :: (us ++ ds)) := .cons rfl (r.append hd)
  have hl : (Value.ref (s.heap.objs.size + 1) :: us ++ ds).length = ps.length := by
    have e := r2.length
    rw [F.len _ _ _ _ hq] at e
    exact e.symm
  refine wpAny_call (make_map (f := f) I.kIn M.makes M.init (beq_iff_eq.mp M.fn) (codeAny_mono (F.run _ X.stack _ _ ⟨Value.ref (s.heap.objs.size + 1) :: us, []⟩ (Value.ref (s.heap.objs.size + 1) :: (us ++ ds)) _ _ E (hr.make C us [])
    (I2.env0.make C us []) (hb _ (Value.ref (s.heap.objs.size + 1) :: us) I2.kIn hl) r2 hq) fun r s' hq' => ?_))
  cases r with
  | error e => exact hx pins σ _ _ e s' I2 hq'
  | ok fl =>
    cases fl with
    | ret u =>
      obtain ⟨v, H', I3, rv, ev, q3⟩ := I2.after hq'
      subst ev
      exact ⟨rv, ⟨V.ref (s.heap.objs.size + 1), H', I3, rfl, q3⟩⟩
    | next => exact False.elim hq'
    | brk => exact False.elim hq'
    | cont => exact False.elim hq'
theorem pe_make (M : Mk X.K C f) (F : FnOk X.prog X.w X.K X.mg X.base CX k f fd ps sp) (hr : Room (k + 1) X.A) (hg : Gl X x) (hm : X.mg x = some (.ref C)) (hb : Binds X.K fd ps ds) (hd : Vals dvs ds) (hx : Passes CX X E)
    (ha : PA X (e :: es) t) (hdb : (x == ("__debug__" : Str)) = false := by decide) (he : starEach (e :: es) X.env = (false, eval e X.env) :: starEach es X.env := by rfl) (hpl : (backTo pos (starEach es X.env)).any (·.1) = false := by rfl) :
    PE X (.Call (.Name x p) (e :: es) [] pos) (tMake C sp dvs E t) := by
  intro pins s σ H Q I h
  refine wpAny_Call_Name_kw (ld_glob I hg hm ?_ hdb)
  refine PySem.W.callWith_K (h₀ := X.base) I.ok.mod.kin M.kp (thn (ha pos pins s σ H _ I h) fun us s1 ⟨vs, H1, I1, r, q⟩ => ⟨I1.kIn, ?_⟩) he hpl
  exact run_make M F hr hb hd hx I1 r q
end

/-! ### keywords -/
section
variable {X : Cx} {CX : CXT} {k : Nat} {f C : Addr} {fd : FuncData} {ps ks : List Str} {sp : Sp} {E : XK} {x m : Str} {p pos apos kpos : Pos} {e o : Expr} {es : List Expr} {kws : List Keyword} {te ta : TE} {t tk : TA} {nm : Option Str}
/-- how a call with keywords binds: g puts the positional values us and the keywords' values ws (names ks) in the parameters' order, defaults among them -/
structure KBinds (K : PySem.W.Frag) (fd : FuncData) (ps ks : List Str) (g : List Value → List Value → List Value) (gV : List V → List V → List V) : Prop where
  to : ∀ (s : Shared) (us ws : List Value), K.In s.heap → (g us ws).length = ps.length → BindsTo s fd ⟨us, ks.zip ws⟩ (ps.zip (g us ws))
  rel : ∀ {vs : List V} {us : List Value} {zs : List V} {ws : List Value}, Vals vs us → Vals zs ws → Vals (gV vs zs) (g us ws)
variable {g : List Value → List Value → List Value} {gV : List V → List V → List V}
end

/-! ### a def's body keeps its promise -/
/-- names: the parameters first -/
structure FnScope (N P : List Str) (sc : Scope) : Prop where
  kind : sc.kind = .function
  co : sc.isCoroutine = false
  gen : sc.isGenerator = false
  nd : N.Nodup
  pre : N.take P.length = P
  par : ∀ x ∈ P, sc.names.lookup x = some .local ∨ sc.names.lookup x = some .cell
  nofree : ∀ y ∈ sc.names, y.2 ≠ .free

theorem bindL_out {kindOf : Str → Option NameKind} {x : Str} : ∀ {binds : List (Str × Value)} {m : Str → Option Value}, (∀ v, (x, v) ∉ binds) → bindL kindOf binds m x = m x
  | [], _, _ => rfl
  | (n, v) :: r, m, h => by
    unfold bindL
    rw [bindL_out fun w hw => h w (List.mem_cons_of_mem _ hw)]
    split
    · have : x ≠ n := by rintro rfl; exact h v List.mem_cons_self
      simp [this]
    · rfl
theorem bindC_out {kindOf : Str → Option NameKind} {x : Str} : ∀ {binds : List (Str × Value)} {m : Str → Option Value}, (∀ v, (x, v) ∉ binds) → bindC kindOf binds m x = m x
  | [], _, _ => rfl
  | (n, v) :: r, m, h => by
    unfold bindC
    rw [bindC_out fun w hw => h w (List.mem_cons_of_mem _ hw)]
    split
    · rfl
    · have : x ≠ n := by rintro rfl; exact h v List.mem_cons_self
      simp [this]
theorem bindL_get {kindOf : Str → Option NameKind} {x : Str} {v : Value} : ∀ {P : List Str} {vs : List Value} {i : Nat} {m : Str → Option Value}, P.Nodup → P[i]? = some x → vs[i]? = some v → kindOf x = some .local →
    bindL kindOf (P.zip vs) m x = some v
  | [], _, _, _, _, h, _, _ => by simp at h
  | _ :: _, [], _, _, _, _, h, _ => by simp at h
  | p :: P, w :: vs, 0, m, nd, h1, h2, hk => by
    simp at h1 h2; subst h1; subst h2
    show bindL kindOf ((p, w) :: P.zip vs) m p = _
    unfold bindL
    rw [bindL_out fun v hv => (List.nodup_cons.mp nd).1 (List.of_mem_zip hv).1, if_pos hk]
    simp
  | p :: P, w :: vs, i + 1, m, nd, h1, h2, hk => by
    show bindL kindOf ((p, w) :: P.zip vs) m x = _
    unfold bindL
    exact bindL_get (i := i) (List.nodup_cons.mp nd).2 (by simpa using h1) (by simpa using h2) hk
theorem bindC_get {kindOf : Str → Option NameKind} {x : Str} {v : Value} : ∀ {P : List Str} {vs : List Value} {i : Nat} {m : Str → Option Value}, P.Nodup → P[i]? = some x → vs[i]? = some v → kindOf x ≠ some .local →
    bindC kindOf (P.zip vs) m x = some v
  | [], _, _, _, _, h, _, _ => by simp at h
  | _ :: _, [], _, _, _, _, h, _ => by simp at h
  | p :: P, w :: vs, 0, m, nd, h1, h2, hk => by
    simp at h1 h2; subst h1; subst h2
    show bindC kindOf ((p, w) :: P.zip vs) m p = _
    unfold bindC
    rw [bindC_out fun v hv => (List.nodup_cons.mp nd).1 (List.of_mem_zip hv).1, if_neg hk]
    simp
  | p :: P, w :: vs, i + 1, m, nd, h1, h2, hk => by
    show bindC kindOf ((p, w) :: P.zip vs) m x = _
    unfold bindC
    exact bindC_get (i := i) (List.nodup_cons.mp nd).2 (by simpa using h1) (by simpa using h2) hk

/-- the names' values at the entry -/
def start (N : List Str) (vs : List V) : St := vs.map some ++ List.replicate (N.length - vs.length) none

/-- the context of a def's body, at its entry; an exception leaves the frame, then lies as CX says -/
def cxOf (CX : CXT) (P : Program) (w : World) (K : PySem.W.Frag) (mg : Str → Option Value) (base : Heap) (N : List Str) (qual : Str) (scope : Scope) (f : Addr) (cd : Value) (A : Around) (outer : List Env) (s : Shared) (H : Hp) (E : XK) : Cx where
  prog := P
  w := w
  K := K
  mg := mg
  base := base
  A := A.deeper (envOfC qual scope s.heap.objs.size f cd)
  N := N
  s_0 := s
  H_0 := H
  env := envOfC qual scope s.heap.objs.size f cd
  outer := outer
  stack := envOfC qual scope s.heap.objs.size f cd :: outer
  ex := []
  calm := true
  fn := fun _ => true
  pn := []
  xe := fun e s' => wpAny (model P w) (A.deeper (envOfC qual scope s.heap.objs.size f cd)) (leaving (envOfC qual scope s.heap.objs.size f cd) e) (fun _ s'' => CX outer H s E e s'') (fun e' s'' => CX outer H s E e' s'') s'

theorem cell_has {sc : Scope} {n : Nat} {x : Str} (h : sc.names.lookup x = some .cell) : ∃ c, (cellsFrom n sc.names []).lookup x = some c := by
  have q := PySem.W.cellsFrom_some sc.names n [] (.inl h)
  exact Option.isSome_iff_exists.mp q

theorem inv_start {CX : CXT} {P : Program} {w : World} {K : PySem.W.Frag} {mg : Str → Option Value} {base : Heap} {N ps : List Str} {qual : Str} {scope : Scope} {f : Addr} {cd : Value} {A : Around} {outer : List Env} {s s1 : Shared} {H : Hp} {E : XK} {us : List Value} {vs : List V}
    (S : FnScope N ps scope) (hd : A.handled = none) (e0 : Env0 P w K mg base A outer s H) (hl : vs.length = ps.length) (r : Vals vs us)
    (x : InCallC s s.heap.objs.size (bindL (envOfC qual scope s.heap.objs.size f cd).kindOf (ps.zip us) fun _ => none) (cellsFrom (s.heap.objs.size + 1) scope.names []) (bindC (envOfC qual scope s.heap.objs.size f cd).kindOf (ps.zip us) fun _ => none) s1) :
    Inv (cxOf CX P w K mg base N qual scope f cd A outer s H E) [] (start N vs) H s1 := by
  have hpl : ps.length ≤ N.length := by have := congrArg List.length S.pre; rw [List.length_take] at this; omega
  obtain ⟨h1, tk, rfl, hk⟩ := x.done
  have noA : ∀ b : Addr, b ∉ (cxOf CX P w K mg base N qual scope f cd A outer s H E).ex := fun b z => absurd (show b ∈ ([] : List Addr) from z) (by simp)
  refine ⟨⟨e0.mod, S.kind, rfl, rfl, Nat.le_refl _, fun y z c h1 h2 => ?_, fun y hy => ?_, fun y c _ h => ?_, fun _ => hd, Around.frames_deeper e0.frames, .inr ⟨rfl, rfl⟩, fun b z => absurd z (noA b), e0.bs, e0.bsz, fun b _ _ => noA b, fun b z => absurd z (noA b), e0.funs, e0.frf⟩,
    rfl, e0.bare, Un.kept hk, ⟨_, x.toInCall.ns, fun i y v h1 h2 h3 => ?_⟩, fun y c h => ⟨_, x.cell y c h⟩, e0.hok.fresh (Nat.le_refl _), fun y c h => ?_, fun p hp => absurd (show p ∈ ([] : List (Addr × Obj)) from hp) (by simp), e0.hok.kept hk, ?_⟩
  · exact name_of_addr x.apart (PySem.mem_of_lookup h1) (PySem.mem_of_lookup h2)
  · have hy : scope.names.lookup y = some .cell ∨ scope.names.lookup y = some .free := hy
    rcases hy with hy | hy
    · exact cell_has hy
    · exact absurd rfl (S.nofree _ (PySem.mem_of_lookup hy))
  · exact Nat.le_of_lt (x.above y c (PySem.mem_of_lookup h))
  · have hi : i < vs.length := by
      unfold start at h2
      by_cases hi : i < vs.length
      · exact hi
      · rw [List.getElem?_append_right (by simpa using hi)] at h2
        rw [List.getElem?_replicate] at h2
        split at h2 <;> cases h2
    have ha : vs[i]? = some v := by
      unfold start at h2
      rw [List.getElem?_append_left (by simpa using hi), List.getElem?_map] at h2
      cases e : vs[i]? with
      | none => rw [e] at h2; cases h2
      | some a => rw [e] at h2; cases h2; rfl
    obtain ⟨u, hu, rv⟩ := r.get ha
    have hp : ps[i]? = some y := by
      rw [← S.pre, List.getElem?_take_of_lt (by omega)]; exact h1
    have ndP : ps.Nodup := by rw [← S.pre]; exact S.nd.sublist (List.take_sublist _ _)
    refine ⟨u, rv, ?_⟩
    rcases S.par y (List.mem_of_getElem? hp) with k | k
    · exact .inl ⟨k, bindL_get ndP hp hu k⟩
    · obtain ⟨c, e⟩ := cell_has (n := s.heap.objs.size + 1) k
      refine .inr ⟨.inl k, c, e, ?_⟩
      have q := x.cell y c e
      rw [bindC_get ndP hp hu (by show scope.names.lookup y ≠ _; rw [k]; decide)] at q
      exact q
  · exact e0.hok.fresh (Nat.le_of_lt (x.above y c (PySem.mem_of_lookup h)))
  · unfold start
    show _ = N.length
    rw [List.length_append, List.length_map, List.length_replicate]
    omega

/-- THE RULE: a def (or a method) of the text, by its body. The body's reading t is chosen for each entry; it is run at the parameters' values -/
theorem fn_of {CX : CXT} {P : Program} {w : World} {K : PySem.W.Frag} {mg : Str → Option Value} {base : Heap} {k : Nat} {f : Addr} {name qual : Str} {params : Arguments} {body : List Stmt} {scope : Scope} {dV kV doc pm cdv ct oc : Value} {an od : Option Addr}
    {osl : Array (Option Value)} {N ps : List Str} {sp : Sp} (lk : K.lookup f = some ⟨oc, od, .func (PySem.W.fnOf name qual params body scope dV kV doc pm an cdv ct), osl⟩) (hcd : PySem.W.codeIn K cdv qual = true) (S : FnScope N ps scope)
    (len : ∀ vs H Q E, sp vs H Q E → vs.length = ps.length)
    (hbody : ∀ (A : Around) (outer : List Env) (s : Shared) (H : Hp) (vs : List V) (Q : VK) (E : XK), Room k (A.deeper (envOfC qual scope s.heap.objs.size f cdv)) → sp vs H Q E →
      ∃ t, PSs (cxOf CX P w K mg base N qual scope f cdv A outer s H E) body t ∧ t { nx := fun _ H' => Q .non H', rt := Q } (start N vs) H) :
    FnOk P w K mg base CX (k + 1) f (PySem.W.fnOf name qual params body scope dV kV doc pm an cdv ct) ps sp := by
  refine ⟨len, fun A outer s H args us vs Q E hr e0 hb r hsp => ?_⟩
  have hl := len _ _ _ _ hsp
  have KX : K.In s.heap := e0.mod.kin.keeps fun b o e => (e0.bs b o e).1
  have lim : s.heap.NoLimit := e0.mod.nolimit.keeps fun b o e => (e0.bs b o e).1
  have hkind : ∀ y ∈ ps.zip us, scope.names.lookup y.1 = some .local ∨ (scope.names.lookup y.1 = some .cell ∧ ((cellsFrom (s.heap.objs.size + 1) scope.names []).lookup y.1).isSome = true) := fun ⟨n, v⟩ hy => by
    rcases S.par n (List.of_mem_zip hy).1 with q | q
    · exact .inl q
    · exact .inr ⟨q, PySem.W.cellsFrom_some _ _ _ (.inl q)⟩
  refine codeAny_call_function hr.depth (KX _ _ lk) rfl S.co S.gen rfl (PySem.W.codeRec_of KX hcd) (hb _ _ _ _ ?_)
  refine wpAny_newFunctionEnv_cells S.kind hkind fun env he s1 x => ?_
  subst he
  refine ⟨lim.keeps x.toInCall.keep, codeAny_func ?_⟩
  obtain ⟨t, ht, hq⟩ := hbody A outer s H vs Q E (hr.deeper _) hsp
  have I : Inv (cxOf CX P w K mg base N qual scope f cdv A outer s H E) [] (start N vs) H s1 := inv_start S hr.hd e0 hl r x
  refine wpAny_mono (ht [] s1 (start N vs) H _ I hq) (fun fl s' hs => ?_) fun e s' hs => hs
  have fin : ∀ {σ' : St} {H' : Hp} {v : V} {u : Value}, Inv (cxOf CX P w K mg base N qual scope f cdv A outer s H E) [] σ' H' s' → RelV v u → Q v H' → CE outer P w H s Q u s' :=
    fun {σ' H' v u} J rv q => ⟨v, H', J.os, J.bare, J.base, J.hok, rv, q⟩
  cases fl with
  | ret u =>
    obtain ⟨v, σ', H', J, rv, q⟩ := hs
    exact fin J rv q
  | next =>
    obtain ⟨σ', H', J, q⟩ := hs
    exact fin (v := V.non) (u := Value.none) J rfl q
  | brk =>
    obtain ⟨_, _, _, q⟩ := hs
    exact False.elim q
  | cont =>
    obtain ⟨_, _, _, q⟩ := hs
    exact False.elim q
end L2

namespace L2
open PySem PySem.Spec PyProof.Rows
section
variable {X : Cx} {x : Str} {p pos : Pos} {e : Expr} {es : List Expr} {t : TA} {id T : String} {r : List V → Hp → VK → Prop}

def tCB (r : List V → Hp → VK → Prop) (t : TA) : TE := fun σ H Q => t σ H fun vs H1 => r vs H1 Q
/-- f(e, ..), f a built-in function -/
theorem pe_callB (hc : CallR X (.builtin id) r) (hg : Gl X x) (hm : X.mg x = none) (hv : bootBuiltins x = some (.builtin id)) (ha : PA X (e :: es) t) (hn : x ≠ "__name__" := by decide) (hdb : (x == ("__debug__" : Str)) = false := by decide)
    (he : starEach (e :: es) X.env = (false, eval e X.env) :: starEach es X.env := by rfl) (hpl : (backTo pos (starEach es X.env)).any (·.1) = false := by rfl) : PE X (.Call (.Name x p) (e :: es) [] pos) (tCB r t) := by
  intro pins s σ H Q I h
  refine wpAny_Call_Name_kw (ld_blt I hg hm hv ?_ hn hdb)
  exact PyProof.Rows.callWith_builtin1 (thn (ha pos pins s σ H _ I h) fun us s1 ⟨vs, H1, I1, r1, q1⟩ => hc pins s1 σ H1 vs us Q I1 r1 q1) he hpl
end
end L2

namespace HT
open PySem PyProof.Rows

/-- t < u of tuples of ints -/
def lexLt : List Int → List Int → Bool
  | [], [] => false
  | [], _ :: _ => true
  | _ :: _, [] => false
  | x :: xs, y :: ys => if x = y then lexLt xs ys else decide (x < y)
theorem lexLt_cons (x y : Int) (xs ys : List Int) : lexLt (x :: xs) (y :: ys) = if x = y then lexLt xs ys else decide (x < y) := rfl
theorem lexLt_nil_nil : lexLt [] [] = false := rfl
theorem lexLt_nil_cons (y : Int) (ys : List Int) : lexLt [] (y :: ys) = true := rfl
theorem lexLt_cons_nil (x : Int) (xs : List Int) : lexLt (x :: xs) [] = false := rfl

theorem eqAt_int (A : Around) (s : Shared) (a : Int) (t : Tok) (c : Int) (u : Tok) : ∃ e, SeqAt.EqAt A s (.int a t) (.int c u) e ∧ (e = true ↔ a = c) :=
  ⟨(a == c), SeqAt.EqAt.int_int a t c u, by simp⟩
section
open PySem.SeqAt
open PySem.AutoSeq1 (wpAny_loadPart')
open PySem.MeetsSeq PySem.MeetsSeq2 PySem.MeetsSeq3

end

section
variable {prog : Program} {w : World} {A : Around} {E : Value → Shared → Prop} {s : Shared}

/-! ### t[a:b], not the whole -/
/-- a slice's bound as a place among n (d where it is left out) -/
def sIx (n d : Nat) : Option Int → Nat
  | none => d
  | some v => if v < 0 then (v + (n : Int)).toNat else min v.toNat n
end
end HT

namespace L2
open PySem PySem.Spec PyProof.Rows

/-! ### the parts of a slice -/
abbrev TO := St → Hp → (Option Int → Hp → Prop) → Prop
/-- a slice's part (left out, or an int) -/
def PO (X : Cx) (e : Option Expr) (t : TO) : Prop :=
  ∀ (pins : List (Addr × Obj)) (s : Shared) (σ : St) (H : Hp) (Q : Option Int → Hp → Prop), Inv X pins σ H s → t σ H Q →
    wpAny (model X.prog X.w) X.A (evalPart e X.env) (fun u s' => ∃ o H', Inv X pins σ H' s' ∧ IsPart u o ∧ Q o H') X.xe s
def tNoPart : TO := fun _ H Q => Q none H
def tPart (t : TE) : TO := fun σ H Q => t σ H fun x H1 => ∃ i, x = .int i ∧ Q (some i) H1

section
variable {X : Cx} {e : Expr} {te : TE} {lo hi : Option Expr} {tl th : TO} {pos p2 : Pos}

theorem po_none : PO X none tNoPart := by
  intro pins s σ H Q I h
  rw [evalPart_none]
  exact wpAny_pure ⟨none, H, I, .none, h⟩
theorem po_some (h : PE X e te) : PO X (some e) (tPart te) := by
  intro pins s σ H Q I hw
  rw [evalPart_some]
  refine thn (h pins s σ H _ I hw) fun u s1 ⟨x, H1, I1, r1, q1⟩ => ?_
  obtain ⟨i, rfl, q⟩ := q1
  obtain ⟨t, rfl⟩ := r1
  exact ⟨some i, H1, I1, .int i t, q⟩

/-- what a slice of a value is, by values: the slice object stands at sl -/
def SlR (X : Cx) (r : V → Option Int → Option Int → Hp → VK → Prop) : Prop :=
  ∀ (pins : List (Addr × Obj)) (s : Shared) (σ : St) (H : Hp) (x : V) (v vl vu : Value) (lo hi : Option Int) (sl : Addr) (Q : VK), Inv X pins σ H s → RelV x v → s.heap.IsSliceOf sl vl vu .none → IsPart vl lo → IsPart vu hi → r x lo hi H Q →
    ∃ T id, typeLookup (.type T) "__getitem__" = pure (some (.builtin id)) ∧ s.TypeIs v T ∧ wpAny (model X.prog X.w) X.A (getItem v (.ref sl)) (EP X pins σ Q) X.xe s
def tSl (r : V → Option Int → Option Int → Hp → VK → Prop) (te : TE) (tl th : TO) : TE := fun σ H Q => te σ H fun x H1 => tl σ H1 fun l H2 => th σ H2 fun u H3 => r x l u H3 Q
/-- a[lo:hi], any a -/
theorem pe_slice {r : V → Option Int → Option Int → Hp → VK → Prop} (hr : SlR X r) (he : PE X e te) (hl : PO X lo tl) (hu : PO X hi th) : PE X (.Subscript e (.Slice lo hi none p2) pos) (tSl r te tl th) := by
  intro pins s σ H Q I h
  refine Subscript_ (thn (he pins s σ H _ I h) fun v s1 ⟨x, H1, I1, r1, q1⟩ => ?_)
  refine wpAny_Slice (thn (hl pins s1 σ H1 _ I1 q1) fun vl s2 ⟨l, H2, I2, pl, q2⟩ => thn (hu pins s2 σ H2 _ I2 q2) fun vu s3 ⟨u, H3, I3, pu, q3⟩ => ?_)
  rw [evalPart_none]
  refine wpAny_pure ?_
  have I4 : Inv X pins σ H3 { s3 with heap := s3.heap.push { cls := .type "slice", data := .fields #[vl, vu, .none] } } := I3.kept (t' := s3.toks) fun b ob q => Heap.get?_push_of_some _ q
  obtain ⟨T, id, hT, ht, hg⟩ := hr pins { s3 with heap := s3.heap.push { cls := .type "slice", data := .fields #[vl, vu, .none] } } σ H3 x v vl vu l u s3.heap.objs.size Q I4 r1 (Heap.IsSliceOf.new ..) pl pu q3
  show wpAny (model X.prog X.w) X.A (subscriptTail e (.Slice lo hi none p2) v (.ref s3.heap.objs.size)) (EP X pins σ Q) X.xe { s3 with heap := s3.heap.push { cls := .type "slice", data := .fields #[vl, vu, .none] } }
  exact tail_any (ops := [.ref s3.heap.objs.size, v]) ht hT hg (by with_unfolding_all rfl)

/-- the items of xs[lo:hi] -/
def cutV (xs : List V) (lo hi : Option Int) : List V := (xs.drop (HT.sIx xs.length 0 lo)).take (HT.sIx xs.length xs.length hi - HT.sIx xs.length 0 lo)
theorem cutV_length (xs : List V) (lo hi : Option Int) : (cutV xs lo hi).length ≤ xs.length := by
  unfold cutV
  rw [List.length_take, List.length_drop]
  omega
/-! ### t < u, t + u -/
end
end L2

namespace L2
open PySem PySem.Spec PyProof.Rows

/-! ### places -/
/-- the place that an index of any sign means -/
def ixN (n : Nat) (i : Int) : Option Nat := if 0 ≤ i then (if i < n then some i.toNat else none) else if -(n : Int) ≤ i then some (i + n).toNat else none
def atI {α : Type} (xs : List α) (i : Int) : Option α := (ixN xs.length i).bind fun j => xs[j]?
theorem ixN_seq {n : Nat} {i : Int} {j : Nat} (h : ixN n i = some j) : seqIndex? i n = some j ∧ j < n ∧ -(n : Int) ≤ i ∧ i < n := by
  unfold ixN at h
  by_cases h0 : 0 ≤ i
  · rw [if_pos h0] at h
    by_cases h1 : i < n
    · rw [if_pos h1] at h
      have e : i.toNat = j := Option.some.inj h
      exact ⟨by rw [seqIndex_of h0 h1, e], by omega, by omega, h1⟩
    · rw [if_neg h1] at h; cases h
  · rw [if_neg h0] at h
    by_cases h1 : -(n : Int) ≤ i
    · rw [if_pos h1] at h
      have e : (i + n).toNat = j := Option.some.inj h
      exact ⟨by rw [seqIndex_neg (by omega) h1, e], by omega, h1, by omega⟩
    · rw [if_neg h1] at h; cases h
theorem atI_get {α : Type} {xs : List α} {i : Int} {v : α} (h : atI xs i = some v) : ∃ j, seqIndex? i xs.length = some j ∧ xs[j]? = some v ∧ j < xs.length ∧ -(xs.length : Int) ≤ i ∧ i < xs.length := by
  unfold atI at h
  cases e : ixN xs.length i with
  | none => rw [e] at h; cases h
  | some j =>
    rw [e] at h
    obtain ⟨h1, h2, h3, h4⟩ := ixN_seq e
    exact ⟨j, h1, h, h2, h3, h4⟩
/-! ### what may be subscripted -/
/-- what stands as an index of a plain subscript -/
def PlainIx (b : Expr) : Prop := ∀ o i, subscripted b false o i = operate [o, i] (getItem o i)
/-- a subscript by values -/
def IxR (X : Cx) (r : R2) : Prop :=
  ∀ (value slice : Expr) (pins : List (Addr × Obj)) (s : Shared) (σ : St) (H : Hp) (x y : V) (v u : Value) (Q : VK), Inv X pins σ H s → RelV x v → RelV y u → r x y H Q →
    subscripted slice false v u = operate [v, u] (getItem v u) → wpAny (model X.prog X.w) X.A (subscriptTail value slice v u) (EP X pins σ Q) X.xe s
/-- a call of a builtin's method by values: the receiver, the arguments -/
def MtR (X : Cx) (id : String) (r : V → List V → Hp → VK → Prop) : Prop :=
  ∀ (pins : List (Addr × Obj)) (s : Shared) (σ : St) (H : Hp) (x : V) (xs : List V) (v : Value) (us : List Value) (Q : VK), Inv X pins σ H s → RelV x v → Vals xs us → r x xs H Q →
    wpAny (model X.prog X.w) X.A (call (.builtin id) (v :: us)) (EP X pins σ Q) X.xe s
section
variable {X : Cx} {a b : Expr} {ta tb : TE} {pos : Pos}
theorem IxR.or {r r' : R2} (h : IxR X r) (h' : IxR X r') : IxR X (fun x y H Q => r x y H Q ∨ r' x y H Q) := by
  intro value slice pins s σ H x y v u Q I rx ry q hs
  rcases q with q | q
  · exact h value slice pins s σ H x y v u Q I rx ry q hs
  · exact h' value slice pins s σ H x y v u Q I rx ry q hs
/-- a[b] -/
theorem pe_ix {r : R2} (hr : IxR X r) (ha : PE X a ta) (hb : PE X b tb) (hs : PlainIx b) : PE X (.Subscript a b pos) (tOp r ta tb) := by
  intro pins s σ H Q I h
  exact Subscript_ (binT ha hb I h fun v u s2 x y H2 I2 rx ry q => hr a b pins s2 σ H2 x y v u Q I2 rx ry q (hs _ _))

def rIxL (K : PySem.W.Frag) : R2 := fun x y H Q => ∃ p xs i v, x = .ref p ∧ y = .int i ∧ SqL K H p xs ∧ atI xs i = some v ∧ Q v H
def rIxT (K : PySem.W.Frag) : R2 := fun x y H Q => ∃ p xs i v, x = .ref p ∧ y = .int i ∧ SqT K H p xs ∧ atI xs i = some v ∧ Q v H
def rIxS : R2 := fun x y H Q => ∃ z i c, x = .str z ∧ y = .int i ∧ z.length ≤ sizeLine ∧ atI z.cps.toList i = some c ∧ Q (.str ⟨#[c]⟩) H
theorem ix_list : IxR X (rIxL X.K) := by
  intro value slice pins s σ H x y v u Q I rx ry h hs
  obtain ⟨p, xs, i, z, rfl, rfl, hq, he, q⟩ := h
  cases rx
  obtain ⟨t, rfl⟩ := ry
  obtain ⟨its, r, pl, hz⟩ := I.list hq
  obtain ⟨j, h1, h2, h3, h4, h5⟩ := atI_get he
  obtain ⟨w, ew, rw'⟩ := r.get h2
  have hl := r.length
  have hn := line63
  have fin : EP X pins σ Q w s := ⟨z, H, I, rw', q⟩
  by_cases h0 : 0 ≤ i
  · have hj : i.toNat = j := by
      rw [seqIndex_of h0 h5] at h1
      exact Option.some.inj h1
    exact item_listR pl.isList h0 (by omega) (by rw [hj]; simpa using ew) fin hs
  · have hj : (i + (its.toArray.size : Int)).toNat = j := by
      rw [seqIndex_neg (by omega) h4] at h1
      rw [List.size_toArray, ← hl]
      exact Option.some.inj h1
    exact subscriptTail_builtinR (x := w) pl.isList.typeIs slot_list_getitem.lookup
      (wpAny_getItem_list_neg (Q := fun r s' => r = w ∧ EP X pins σ Q r s') pl.isList (by omega) (by rw [List.size_toArray] <;> omega) (by omega) (by rw [hj]; simpa using ew) ⟨rfl, fin⟩) hs
theorem ix_tup : IxR X (rIxT X.K) := by
  intro value slice pins s σ H x y v u Q I rx ry h hs
  obtain ⟨p, xs, i, z, rfl, rfl, hq, he, q⟩ := h
  cases rx
  obtain ⟨t, rfl⟩ := ry
  obtain ⟨its, r, pl, hz⟩ := I.tuple hq
  obtain ⟨j, h1, h2, h3, h4, h5⟩ := atI_get he
  obtain ⟨w, ew, rw'⟩ := r.get h2
  have hl := r.length
  have hn := line63
  have fin : EP X pins σ Q w s := ⟨z, H, I, rw', q⟩
  exact subscriptTail_builtinR (x := w) pl.typeIs slot_tuple_getitem.lookup
    (getItem_tuple (j := j) (Q := fun r s' => r = w ∧ EP X pins σ Q r s') pl (by omega) (by omega) (by rw [List.size_toArray, ← hl]; exact h1) (by simpa using ew) ⟨rfl, fin⟩) hs
theorem ix_str : IxR X rIxS := by
  intro value slice pins s σ H x y v u Q I rx ry h hs
  obtain ⟨z, i, c, rfl, rfl, hz, he, q⟩ := h
  obtain ⟨t, rfl⟩ := rx
  obtain ⟨t', rfl⟩ := ry
  obtain ⟨j, h1, h2, h3, h4, h5⟩ := atI_get he
  have hl : z.cps.toList.length = z.length := by simp [Str.length]
  rw [hl] at h1 h4 h5
  have hn := line63
  exact tail_any (typeIs_str s z t) slot_str_getitem.lookup (getItem_str (c := c) (by
    have e1 : decide (i < -(2 ^ 63 : Int)) = false := decide_eq_false (by omega)
    have e2 : decide (i ≥ 2 ^ 63) = false := decide_eq_false (by omega)
    rw [e1, e2, Bool.or_false]) (by rw [h1]; simpa using h2) ⟨.str ⟨#[c]⟩, H, I.tok _, ⟨_, rfl⟩, q⟩) hs
/-- list, tuple or str -/
def rIx (K : PySem.W.Frag) : R2 := fun x y H Q => rIxL K x y H Q ∨ rIxT K x y H Q ∨ rIxS x y H Q
theorem ix_seq : IxR X (rIx X.K) := ix_list.or (ix_tup.or ix_str)

/-! ### xs[i] = v, any sign -/
/-! ### slices -/
theorem slice_bounds (lo hi : Option Int) (n : Nat) : (sliceBounds lo hi none n).1 = ((HT.sIx n 0 lo : Nat) : Int) ∧ (sliceBounds lo hi none n).2.1 = ((HT.sIx n n hi : Nat) : Int) ∧ (sliceBounds lo hi none n).2.2 = 1 := by
  refine ⟨?_, ?_, rfl⟩
  · cases lo with
    | none => simp [sliceBounds, HT.sIx]
    | some i =>
      simp only [sliceBounds, HT.sIx, Option.getD_none, show (1 : Int) > 0 by decide, if_true]
      by_cases h : i < 0
      · simp only [h, if_true] <;> omega
      · simp only [h, if_false] <;> omega
  · cases hi with
    | none => simp [sliceBounds, HT.sIx]
    | some i =>
      simp only [sliceBounds, HT.sIx, Option.getD_none, show (1 : Int) > 0 by decide, if_true]
      by_cases h : i < 0
      · simp only [h, if_true] <;> omega
      · simp only [h, if_false] <;> omega
theorem slicePick_cut (its : List Value) (lo hi : Option Int) : slicePick its.toArray lo hi none = ((its.drop (HT.sIx its.length 0 lo)).take (HT.sIx its.length its.length hi - HT.sIx its.length 0 lo)).toArray := by
  obtain ⟨h1, h2, h3⟩ := slice_bounds lo hi its.toArray.size
  unfold slicePick
  rw [h1, h2, h3]
  simp only [sliceRange_one, pick_run, List.size_toArray] <;> rfl
/-- xs[lo:hi] of a list: a new list -/
def rSlL (K : PySem.W.Frag) : V → Option Int → Option Int → Hp → VK → Prop := fun x lo hi H Q => ∃ a xs, x = .ref a ∧ SqL K H a xs ∧ ∀ p, H p = none → Q (.ref p) (upd H p (.lst (cutV xs lo hi)))
theorem sl_list : SlR X (rSlL X.K) := by
  intro pins s σ H x v vl vu lo hi sl Q I rx hs pl pu h
  obtain ⟨a, xs, rfl, hx, q⟩ := h
  cases rx
  obtain ⟨its, r, ht, hz⟩ := I.list hx
  have hlen := r.length
  refine ⟨"list", _, slot_list_getitem.lookup, ht.isList.typeIs, ?_⟩
  refine wpAny_getItem_list_slice ht.isList hs pl pu .none (by simp) ?_ (by rw [List.size_toArray] <;> omega)
  rw [slicePick_cut, ← hlen]
  refine ⟨.ref s.heap.objs.size, _, I.laid (t' := s.toks) (o := .lst (cutV xs lo hi)) (fun b ob q => Heap.get?_push_of_some _ q) (Nat.le_refl _) ?_, rfl, q _ (I.hok.fresh (Nat.le_refl _))⟩
  exact ⟨Nat.le_trans (cutV_length xs lo hi) hz, _, 0, (r.drop (HT.sIx xs.length 0 lo)).take (HT.sIx xs.length xs.length hi - HT.sIx xs.length 0 lo), Heap.get?_push_size _ rfl⟩

/-! ### in, not in: flat items -/
def flatV : V → Bool
  | .non => true
  | .bl _ => true
  | .int _ => true
  | .str _ => true
  | _ => false
/-- == of flat values -/
def eqV : V → V → Bool
  | .non, .non => true
  | .bl a, .bl b => a == b
  | .bl a, .int b => (if a then 1 else 0) == b
  | .int a, .bl b => a == (if b then 1 else 0)
  | .int a, .int b => a == b
  | .str a, .str b => a == b
  | _, _ => false
theorem eqAt_V {A : Around} {s : Shared} {y x : V} {u v : Value} (ry : RelV y u) (rx : RelV x v) (fy : flatV y = true) (fx : flatV x = true) : SeqAt.EqAt A s u v (eqV y x) := by
  cases y with
  | non =>
    cases ry
    cases x with
    | non => cases rx; exact SeqAt.EqAt.same _
    | bl b => cases rx; exact SeqAt.EqAt.none_bool b
    | int b => obtain ⟨t, rfl⟩ := rx; exact SeqAt.EqAt.none_int b t
    | str b => obtain ⟨t, rfl⟩ := rx; exact SeqAt.EqAt.none_str b t
    | _ => exact absurd (show false = true from fx) Bool.false_ne_true
  | bl a =>
    cases ry
    cases x with
    | non => cases rx; exact SeqAt.EqAt.bool_none a
    | bl b => cases rx; exact SeqAt.EqAt.bool_bool a b
    | int b => obtain ⟨t, rfl⟩ := rx; exact SeqAt.EqAt.bool_int a b t
    | str b => obtain ⟨t, rfl⟩ := rx; exact SeqAt.EqAt.bool_str a b t
    | _ => exact absurd (show false = true from fx) Bool.false_ne_true
  | int a =>
    obtain ⟨t', rfl⟩ := ry
    cases x with
    | non => cases rx; exact SeqAt.EqAt.int_none a t'
    | bl b => cases rx; exact SeqAt.EqAt.int_bool a t' b
    | int b => obtain ⟨t, rfl⟩ := rx; exact SeqAt.EqAt.int_int a t' b t
    | str b => obtain ⟨t, rfl⟩ := rx; exact SeqAt.EqAt.int_str a t' b t
    | _ => exact absurd (show false = true from fx) Bool.false_ne_true
  | str a =>
    obtain ⟨t', rfl⟩ := ry
    cases x with
    | non => cases rx; exact SeqAt.EqAt.str_none a t'
    | bl b => cases rx; exact SeqAt.EqAt.str_bool a t' b
    | int b => obtain ⟨t, rfl⟩ := rx; exact SeqAt.EqAt.str_int a t' b t
    | str b => obtain ⟨t, rfl⟩ := rx; exact SeqAt.EqAt.str_str a t' b t
    | _ => exact absurd (show false = true from fx) Bool.false_ne_true
  | _ => exact absurd (show false = true from fy) Bool.false_ne_true
/-- the items' answers, read off the values (a value's own answer does not lean on its token) -/
def eqU (x : V) (u : Value) : Bool := match u with
  | .none => eqV .non x
  | .bool b => eqV (.bl b) x
  | .int i _ => eqV (.int i) x
  | .str z _ => eqV (.str z) x
  | _ => false
theorem eqU_of {x y : V} {u : Value} (r : RelV y u) (f : flatV y = true) : eqU x u = eqV y x := by
  cases y with
  | non => cases r; rfl
  | bl b => cases r; rfl
  | int i => obtain ⟨t, rfl⟩ := r; rfl
  | str z => obtain ⟨t, rfl⟩ := r; rfl
  | _ => exact absurd (show false = true from f) Bool.false_ne_true
theorem any_eqU {x : V} : ∀ {xs : List V} {us : List Value}, Vals xs us → xs.all flatV = true → us.any (eqU x) = xs.any fun y => eqV y x
  | _, _, .nil, _ => rfl
  | y :: xs, u :: us, .cons r t, f => by
    rw [List.all_cons, Bool.and_eq_true] at f
    rw [List.any_cons, List.any_cons, eqU_of r f.1, any_eqU t f.2]
theorem mem_eqAt {A : Around} {s : Shared} {x : V} {v : Value} (rx : RelV x v) (fx : flatV x = true) : ∀ {xs : List V} {us : List Value}, Vals xs us → xs.all flatV = true → ∀ u ∈ us, SeqAt.EqAt A s u v (eqU x u)
  | _, _, .nil, _ => fun u hu => by cases hu
  | y :: xs, u :: us, .cons r t, f => fun u' hu => by
    rw [List.all_cons, Bool.and_eq_true] at f
    rcases List.mem_cons.mp hu with rfl | hu
    · rw [eqU_of r f.1]; exact eqAt_V r rx f.1 fx
    · exact mem_eqAt rx fx t f.2 u' hu
def inV (x : V) (xs : List V) : Bool := xs.any fun y => eqV y x
/-- x in a list or tuple of flat items -/
def rIn (K : PySem.W.Frag) (neg : Bool) : R2 := fun x y H Q => ∃ p xs, y = .ref p ∧ (SqL K H p xs ∨ SqT K H p xs) ∧ flatV x = true ∧ xs.all flatV = true ∧ Q (.bl (if neg then !inV x xs else inV x xs)) H
theorem op_in_seq : OpR X (compareOp .In) (rIn X.K false) := by
  intro pins s σ H x y v u Q I rx ry h
  obtain ⟨p, xs, rfl, hq, fx, fs, q⟩ := h
  cases ry
  rcases hq with hq | hq
  · obtain ⟨its, r, pl, hz⟩ := I.list hq
    refine SeqAt.in_listAt (eqU x) pl.isList (fun w hw => mem_eqAt rx fx r fs w (by simpa using hw)) ⟨.bl _, H, I, rfl, ?_⟩
    rw [show its.toArray.any (eqU x) = its.any (eqU x) by simp, any_eqU r fs]
    exact q
  · obtain ⟨its, r, pl, hz⟩ := I.tuple hq
    refine SeqAt.in_tupleAt (eqU x) pl (fun w hw => mem_eqAt rx fx r fs w (by simpa using hw)) ⟨.bl _, H, I, rfl, ?_⟩
    rw [show its.toArray.any (eqU x) = its.any (eqU x) by simp, any_eqU r fs]
    exact q
theorem op_notIn_seq : OpR X (compareOp .NotIn) (rIn X.K true) := by
  intro pins s σ H x y v u Q I rx ry h
  obtain ⟨p, xs, rfl, hq, fx, fs, q⟩ := h
  cases ry
  rcases hq with hq | hq
  · obtain ⟨its, r, pl, hz⟩ := I.list hq
    refine SeqAt.notIn_listAt (eqU x) pl.isList (fun w hw => mem_eqAt rx fx r fs w (by simpa using hw)) ⟨.bl _, H, I, rfl, ?_⟩
    rw [show its.toArray.any (eqU x) = its.any (eqU x) by simp, any_eqU r fs]
    exact q
  · obtain ⟨its, r, pl, hz⟩ := I.tuple hq
    refine SeqAt.notIn_tupleAt (eqU x) pl (fun w hw => mem_eqAt rx fx r fs w (by simpa using hw)) ⟨.bl _, H, I, rfl, ?_⟩
    rw [show its.toArray.any (eqU x) = its.any (eqU x) by simp, any_eqU r fs]
    exact q
/-! ### len, list(x), tuple(x) of any list or tuple that is read -/
/-! ### the call of a builtin's method: o.m(..) -/
/-- the value is of that builtin type -/
def tyV (K : PySem.W.Frag) (T : String) (x : V) (H : Hp) : Prop := match x with
  | .str _ => T = "str"
  | .int _ => T = "int"
  | .ref p => (T = "list" ∧ ∃ xs, SqL K H p xs) ∨ (T = "tuple" ∧ ∃ o, K.lookup p = some o ∧ o.cls = .type "tuple" ∧ o.dict = none) ∨
      (T = "dict" ∧ ((∃ kvs, H p = some (.dK kvs)) ∨ ∃ kvs, H p = some (.dT kvs))) ∨ (T = "set" ∧ ∃ S n, H p = some (.set S n))
  | _ => False
theorem tyV_is {pins : List (Addr × Obj)} {σ : St} {H : Hp} {s : Shared} {T : String} {x : V} {v : Value} (I : Inv X pins σ H s) (r : RelV x v) (ty : tyV X.K T x H) :
    s.TypeIs v T ∧ ∀ a, v = .ref a → ∃ ob, s.heap.get? a = some ob ∧ ob.dict = none := by
  cases x with
  | str z =>
    obtain ⟨t, rfl⟩ := r
    cases (show T = "str" from ty)
    exact ⟨typeIs_str s z t, fun _ e => nomatch e⟩
  | int i =>
    obtain ⟨t, rfl⟩ := r
    cases (show T = "int" from ty)
    exact ⟨typeIs_int s i t, fun _ e => nomatch e⟩
  | ref p =>
    cases r
    rcases ty with ⟨rfl, xs, hq⟩ | ⟨rfl, o, hk, hc, hd⟩ | ⟨rfl, hk⟩ | ⟨rfl, S, n, hk⟩
    · obtain ⟨its, _, pl, _⟩ := I.list hq
      refine ⟨pl.isList.typeIs, fun a e => ?_⟩
      cases e
      obtain ⟨o, n, e, c, hd, _⟩ := pl
      exact ⟨o, e, hd⟩
    · refine ⟨⟨o, I.kIn p o hk, hc⟩, fun a e => ?_⟩
      cases e
      exact ⟨o, I.kIn _ o hk, hd⟩
    · have z : ∃ o, s.heap.get? p = some o ∧ o.ExactDict := by
        rcases hk with ⟨kvs, hk⟩ | ⟨kvs, hk⟩
        · obtain ⟨_, _, _, _, o, _, _, e, ex, _⟩ := I.hok p _ hk
          exact ⟨o, e, ex⟩
        · obtain ⟨_, _, _, _, o, _, _, e, ex, _⟩ := I.hok p _ hk
          exact ⟨o, e, ex⟩
      obtain ⟨o, e, ex⟩ := z
      refine ⟨⟨o, e, ex.1⟩, fun a e2 => ?_⟩
      cases e2
      exact ⟨o, e, ex.2.1⟩
    · obtain ⟨o, _, _, _, e, ex, _⟩ := I.hok p _ hk
      refine ⟨⟨o, e, ex.1⟩, fun a e2 => ?_⟩
      cases e2
      exact ⟨o, e, ex.2.1⟩
  | _ => exact False.elim ty
def tBM0 (K : PySem.W.Frag) (T : String) (r : V → List V → Hp → VK → Prop) (to : TE) : TE := fun σ H Q => to σ H fun x H1 => tyV K T x H1 ∧ r x [] H1 Q
variable {o e : Expr} {es : List Expr} {to : TE} {t : TA} {name : Str} {apos cpos : Pos} {T id : String} {r : V → List V → Hp → VK → Prop}
theorem pe_bm0 (pa : PlainAttrs T) (slot : Slot T name id) (hty : typeOf (.builtin id) = pure (.type "method_descriptor")) (hm : MtR X id r) (ho : PE X o to)
    (hbase : attributeBase o name X.env (eval o X.env) = eval o X.env := by rfl) (hline : (apos.endLine == cpos.line) = true := by rfl) : PE X (.Call (.Attribute o name apos) [] [] cpos) (tBM0 X.K T r to) := by
  intro pins s σ H Q I h
  refine wpAny_Call_method0_late hbase hline (thn (ho pins s σ H _ I h) fun v s1 ⟨x, H1, I1, r1, ty, q1⟩ => ?_)
  obtain ⟨h1, h2⟩ := tyV_is I1 r1 ty
  exact ⟨T, id, pa, slot, hty, h1, h2, Calls.callWith_builtin rfl (PySem.evalArgs_none (hm pins s1 σ H1 x [] v [] Q I1 r1 .nil q1))⟩
/- xs.append(e), list.index on a module's tuple .. are MtR facts of 06m -/
end
end L2

namespace L2
open PySem PySem.Spec PyProof.Rows

/-! ### lists of values -/
theorem Vals.one : ∀ {x : V} {us : List Value}, Vals [x] us → ∃ u, us = [u] ∧ RelV x u
  | _, _, .cons r .nil => ⟨_, rfl, r⟩
theorem Vals.zero : ∀ {us : List Value}, Vals [] us → us = []
  | _, .nil => rfl
section
variable {X : Cx} {pins : List (Addr × Obj)} {σ : St} {H : Hp} {s : Shared} {l b : Addr} {xs ys zs : List V}

/-! ### the two steps: a tracked list is rewritten, a new list is laid -/
theorem Inv.lnew {its : List Value} {t' : Nat} (I : Inv X pins σ H s) (hv : Vals ys its) (hz : ys.length ≤ sizeLine) :
    Inv X pins σ (upd H s.heap.objs.size (.lst ys)) { s with heap := s.heap.push { cls := .type "list", data := .seq its.toArray }, toks := t' } :=
  I.laid (fun _ _ q => Heap.get?_push_of_some _ q) (Nat.le_refl _) ⟨hz, its, 0, hv, Heap.get?_push_size _ rfl⟩
theorem Inv.fresh (I : Inv X pins σ H s) : H s.heap.objs.size = none := I.hok.fresh (Nat.le_refl _)
end

section
variable {X : Cx}

/-! ### methods -/
/-! ### list + list, list += list, list * int -/
/-! ### del xs[i] -/
end

/-! ### xs[a:b] = ys -/
section
variable {prog : Program} {w : World} {A : Around} {E : Value → Shared → Prop} {s : Shared}
set_option maxRecDepth 100000 in
end

section
variable {X : Cx}
end
end L2

namespace L2
open PySem PySem.Spec PyProof.Rows

theorem Vals.ints : ∀ {ns : List Int} {us : List Value}, Vals (ns.map V.int) us → IntsAre us ns
  | [], us, h => by
    rw [List.map_nil] at h
    cases h
    exact IntsAre.nil
  | n :: ns, us, h => by
    rw [List.map_cons] at h
    cases h with
    | cons r t =>
      obtain ⟨k, rfl⟩ := r
      exact IntsAre.cons n k (Vals.ints t)
theorem Vals.bls : ∀ {bs : List Bool} {us : List Value}, Vals (bs.map V.bl) us → us = bs.map Value.bool
  | [], us, h => by
    rw [List.map_nil] at h
    cases h
    rfl
  | b :: bs, us, h => by
    rw [List.map_cons] at h
    cases h with
    | cons r t =>
      cases r
      rw [Vals.bls t, List.map_cons]
theorem Vals.ref1 {a : Addr} {us : List Value} (r : Vals [V.ref a] us) : us = [Value.ref a] := by
  cases r with
  | cons r t =>
    cases t
    cases r
    rfl
/-! ### the library's walks over a list of ints, kept objects alone -/
section
variable {prog : Program} {w : World} {A : Around} {E : Value → Shared → Prop} {s : Shared} {l : Addr} {its : List Value} {ns : List Int} {Q : Value → Shared → Prop}
end

/-! ### the calls, by values (CallR of 03t; MtR of 06l) -/
section
variable {X : Cx}
/-! sorted, sort (fewer than 64 items: the library's own bound) -/
end

/-! ### list.index, flat items -/
section
variable {X : Cx}
end

/-! ### type(x) of an own instance; is, is not of a module's class -/
section
variable {X : Cx}
end

/-! ### any(xs), all(xs) of a list of bools -/
theorem iter_any {prog : Program} {w : World} {A : Around} {E : Value → Shared → Prop} {s : Shared} {l : Addr} {items : Array Value} {Q : Value → Shared → Prop} (hl : s.heap.IsList l items)
    (h : ∀ s₂ : Shared, s₂ = { s with heap := s.heap.push { cls := .type "list_iterator", data := .fields #[.ref l, .int 0 0] } } →
      (s₂.heap.IsListIter s.heap.objs.size l 0 ∧ s₂.heap.IsList l items) → l ≠ s.heap.objs.size → Q (.ref s.heap.objs.size) s₂) : wpAny (model prog w) A (pyIter (.ref l)) Q E s := by
  have hlt : l < s.heap.objs.size := by obtain ⟨_, e, _⟩ := hl; exact Heap.lt_size e
  exact wpAny_pyIter_list hl (h _ rfl ⟨⟨_, Heap.get?_push_size _ rfl, rfl, rfl⟩, hl.push _⟩ (Nat.ne_of_lt hlt))
theorem truth_bools {prog : Program} {w : World} {A : Around} {bs : List Bool} {its : List Value} (e : its = bs.map Value.bool) :
    TruthOf prog w A (fun i v => its.toArray[i]? = some v) (fun i => bs.getD i false) := fun i v s Q E hv hq => by
  have hv' : its[i]? = some v := by simpa using hv
  rw [e, List.getElem?_map] at hv'
  obtain ⟨b, hb, rfl⟩ := Option.map_eq_some_iff.mp hv'
  have hg : bs.getD i false = b := by rw [List.getD_eq_getElem?_getD, hb] <;> rfl
  have hq' : Q (bs.getD i false) s := hq
  rw [hg] at hq'
  exact wpAny_truthy_bool hq'
theorem any_range : ∀ bs : List Bool, (List.range bs.length).any (fun i => bs.getD i false) = bs.any id
  | [] => rfl
  | b :: bs => by
    rw [List.length_cons, List.range_succ_eq_map, List.any_cons, List.any_map, List.any_cons, ← any_range bs]
    all_goals rfl
section
variable {X : Cx}
def rAny (K : PySem.W.Frag) : List V → Hp → VK → Prop := fun vs H Q => ∃ (a : Addr) (bs : List Bool), vs = [V.ref a] ∧ SqL K H a (bs.map V.bl) ∧ Q (.bl (bs.any id)) H
theorem cr_any (hc : X.calm = true) : CallR X (.builtin "any") (rAny X.K) := by
  intro pins s σ H vs us Q I r h
  obtain ⟨a, bs, rfl, hs, q⟩ := h
  obtain ⟨its, rv, hl, _⟩ := I.list hs
  rw [Vals.ref1 r]
  have hb := rv.bls
  refine call_any_walk (iter_any hl.isList fun s₂ e2 st hne => ?_)
  subst e2
  refine ⟨_, _, _, _, _, _, _, rfl, Walks.list (A := X.A.in1) (I.ok.hd hc) _ a hne its.toArray, st, truth_bools hb, fun h' tk hk => ?_⟩
  refine ⟨.bl _, H, I.kept fun b o eo => hk b o (fun hmem => ?_) (Heap.get?_push_of_some _ eo), ?_, q⟩
  · rcases List.mem_cons.mp hmem with e1 | hmem
    · exact absurd (e1 ▸ Heap.lt_size eo) (Nat.lt_irrefl _)
    · cases hmem
  · show Value.bool _ = Value.bool _
    rw [← any_range, hb, List.size_toArray, List.length_map]
end

/-! ### == and != of data at any depth: none, bools, ints, texts, lists, tuples -/
mutual
inductive Dp (K : PySem.W.Frag) (H : Hp) : V → PyData → Prop
  | non : Dp K H .non .none
  | bl (b : Bool) : Dp K H (.bl b) (.bool b)
  | int (i : Int) : Dp K H (.int i) (.int i)
  | str (x : Str) : Dp K H (.str x) (.str x)
  | lst {a : Addr} {xs : List V} {ds : List PyData} : SqL K H a xs → DpAll K H xs ds → Dp K H (.ref a) (.list ds)
  | tup {a : Addr} {xs : List V} {ds : List PyData} : SqT K H a xs → DpAll K H xs ds → Dp K H (.ref a) (.tuple ds)
inductive DpAll (K : PySem.W.Frag) (H : Hp) : List V → List PyData → Prop
  | nil : DpAll K H [] []
  | cons {v : V} {vs : List V} {d : PyData} {ds : List PyData} : Dp K H v d → DpAll K H vs ds → DpAll K H (v :: vs) (d :: ds)
end
section
variable {X : Cx} {pins : List (Addr × Obj)} {σ : St} {H : Hp} {s : Shared}
mutual
theorem Dp.reads (I : Inv X pins σ H s) : ∀ (d : PyData) (v : V) (u : Value), Dp X.K H v d → RelV v u → ∃ as, Reads s.heap u d as
  | .none, _, _, h, r => by
    cases h
    cases r
    exact ⟨_, Reads.none⟩
  | .bool b, _, _, h, r => by
    cases h
    cases r
    exact ⟨_, Reads.bool b⟩
  | .int i, _, _, h, r => by
    cases h
    obtain ⟨t, rfl⟩ := r
    exact ⟨_, Reads.int i t⟩
  | .str x, _, _, h, r => by
    cases h
    obtain ⟨t, rfl⟩ := r
    exact ⟨_, Reads.str x t⟩
  | .list ds, _, _, h, r => by
    cases h with
    | lst hs ha =>
      cases r
      obtain ⟨its, rv, ⟨o, n, ho, hc, _, hd⟩, _⟩ := I.list hs
      obtain ⟨as, hr⟩ := Dp.readsAll I ds _ its ha rv
      exact ⟨_, Reads.list ho hc hd hr⟩
  | .tuple ds, _, _, h, r => by
    cases h with
    | tup hs ha =>
      cases r
      obtain ⟨its, rv, ⟨o, ho, hc, n, hd⟩, _⟩ := I.tuple hs
      obtain ⟨as, hr⟩ := Dp.readsAll I ds _ its ha rv
      exact ⟨_, Reads.tuple ho hc hd hr⟩
  | .dict _, _, _, h, _ => by cases h
theorem Dp.readsAll (I : Inv X pins σ H s) : ∀ (ds : List PyData) (vs : List V) (us : List Value), DpAll X.K H vs ds → Vals vs us → ∃ as, ReadsAll s.heap us ds as
  | [], _, _, h, r => by
    cases h
    cases r
    exact ⟨_, ReadsAll.nil⟩
  | d :: ds, _, _, h, r => by
    cases h with
    | cons h1 h2 =>
      cases r with
      | cons r1 r2 =>
        obtain ⟨as, q1⟩ := Dp.reads I d _ _ h1 r1
        obtain ⟨bs, q2⟩ := Dp.readsAll I ds _ _ h2 r2
        exact ⟨_, ReadsAll.cons q1 q2⟩
end
end
section
variable {X : Cx}
end
end L2

namespace L2
open PySem PySem.Spec PyProof.Rows
abbrev CellAt (h : Heap) (c : Addr) (v : Option Value) : Prop := h.IsCell c v
def relS (scope sc : Scope) : Scope :=
  { scope with names := scope.names.map fun (n, k) => if (k == .free && sc.kind == .function && sc.names.lookup n == some .cell) then (n, .cell) else (n, k) }

def cloFrom (cells : List (Str × Addr)) : List (Str × NameKind) → List (Str × Addr) → List (Str × Addr)
  | [], acc => acc
  | (n, k) :: r, acc => if k == .free then cloFrom cells r ((n, (cells.lookup n).getD 0) :: acc) else cloFrom cells r acc

theorem closure_loop (env : Env) (f : Str × NameKind → List (Str × Addr) → Sem (ForInStep (List (Str × Addr))))
    (hf : ∀ n k c, f (n, k) c = if k == .free then (do let a ← cellOf env n; pure (.yield ((n, a) :: c))) else pure (.yield c)) :
    ∀ (names : List (Str × NameKind)) (acc : List (Str × Addr)), (∀ y ∈ names, y.2 = .free → ∃ c, env.cells.lookup y.1 = some c) → forIn names acc f = pure (cloFrom env.cells names acc)
  | [], acc, _ => by rw [List.forIn_nil]; rfl
  | (n, k) :: r, acc, h => by
    rw [List.forIn_cons, hf]
    have ih := fun acc => closure_loop env f hf r acc fun y hy => h y (List.mem_cons_of_mem _ hy)
    unfold cloFrom
    by_cases hk : (k == NameKind.free) = true
    · rw [if_pos hk, if_pos hk]
      obtain ⟨c, hc⟩ := h (n, k) List.mem_cons_self (by simpa using hk)
      have e : cellOf env n = pure c := by unfold cellOf; rw [hc]
      rw [e]
      have e2 : (env.cells.lookup n).getD 0 = c := by rw [hc]; rfl
      rw [e2]
      exact ih _
    · rw [if_neg hk, if_neg hk]
      exact ih _
theorem closure_ok {scope : Scope} {env : Env} (h : ∀ y ∈ scope.names, y.2 = .free → ∃ c, env.cells.lookup y.1 = some c) : closureFor scope env = pure (cloFrom env.cells scope.names []) := by
  simp only [closureFor]
  rw [closure_loop env _ (fun n k c => rfl) scope.names [] h]
  rfl

theorem mem_lookup {α : Type} : ∀ {l : List (Str × α)} {n : Str} {c : α}, (n, c) ∈ l → ∃ c', l.lookup n = some c'
  | (k, v) :: r, n, c, h => by
    rw [List.lookup_cons]
    cases hb : n == k with
    | true => exact ⟨_, rfl⟩
    | false =>
      rcases List.mem_cons.mp h with e | h
      · cases e; simp at hb
      · exact mem_lookup h

theorem cloFrom_mem {cells : List (Str × Addr)} : ∀ {names : List (Str × NameKind)} {acc : List (Str × Addr)} {n : Str} {c : Addr}, (n, c) ∈ cloFrom cells names acc → (n, c) ∈ acc ∨ ((n, .free) ∈ names ∧ c = (cells.lookup n).getD 0)
  | [], _, _, _, h => .inl h
  | (m, k) :: r, acc, n, c, h => by
    unfold cloFrom at h
    split at h
    · rename_i hk
      have hk : k = .free := by simpa using hk
      rcases cloFrom_mem h with h | ⟨h1, h2⟩
      · rcases List.mem_cons.mp h with e | h
        · cases e; exact .inr ⟨hk ▸ List.mem_cons_self, rfl⟩
        · exact .inl h
      · exact .inr ⟨List.mem_cons_of_mem _ h1, h2⟩
    · rcases cloFrom_mem h with h | ⟨h1, h2⟩
      · exact .inl h
      · exact .inr ⟨List.mem_cons_of_mem _ h1, h2⟩
theorem cloFrom_acc {cells : List (Str × Addr)} : ∀ {names : List (Str × NameKind)} {acc : List (Str × Addr)} {p : Str × Addr}, p ∈ acc → p ∈ cloFrom cells names acc
  | [], _, _, h => h
  | (m, k) :: r, acc, p, h => by
    unfold cloFrom
    split
    · exact cloFrom_acc (List.mem_cons_of_mem _ h)
    · exact cloFrom_acc h
theorem cloFrom_has {cells : List (Str × Addr)} : ∀ {names : List (Str × NameKind)} {acc : List (Str × Addr)} {n : Str}, (n, .free) ∈ names → (n, (cells.lookup n).getD 0) ∈ cloFrom cells names acc
  | (m, k) :: r, acc, n, h => by
    unfold cloFrom
    rcases List.mem_cons.mp h with e | h
    · cases e
      exact cloFrom_acc List.mem_cons_self
    · split
      · exact cloFrom_has h
      · exact cloFrom_has h

theorem cells_mem : ∀ {names : List (Str × NameKind)} {h : Heap} {acc : List (Str × Addr)} {x : Str} {c : Addr}, (x, c) ∈ cellsFrom h.objs.size names acc →
    (x, c) ∈ acc ∨ ((x, .cell) ∈ names ∧ h.objs.size ≤ c ∧ CellAt (pushCells h names) c none)
  | [], _, _, _, _, h => .inl h
  | (n, k) :: r, h, acc, x, c, hm => by
    unfold cellsFrom at hm
    unfold pushCells
    split at hm
    · rename_i hk
      rw [if_pos hk]
      have hk : k = .cell := by simpa using hk
      rw [← Heap.size_push h { cls := .type "cell", data := .cell none }] at hm
      rcases cells_mem hm with hm | ⟨h1, h2, h3⟩
      · rcases List.mem_cons.mp hm with e | hm
        · cases e
          exact .inr ⟨hk ▸ List.mem_cons_self, Nat.le_refl _, _, pushCells_keeps r _ _ _ (Heap.get?_push_size _ rfl), rfl⟩
        · exact .inl hm
      · rw [Heap.size_push] at h2
        exact .inr ⟨List.mem_cons_of_mem _ h1, Nat.le_of_succ_le h2, h3⟩
    · rename_i hk
      rw [if_neg hk]
      rcases cells_mem hm with hm | ⟨h1, h2, h3⟩
      · exact .inl hm
      · exact .inr ⟨List.mem_cons_of_mem _ h1, h2, h3⟩
theorem cells_acc : ∀ {names : List (Str × NameKind)} {n : Nat} {acc : List (Str × Addr)} {p : Str × Addr}, p ∈ acc → p ∈ cellsFrom n names acc
  | [], _, _, _, h => h
  | (m, k) :: r, n, acc, p, h => by
    unfold cellsFrom
    split
    · exact cells_acc (List.mem_cons_of_mem _ h)
    · exact cells_acc h
theorem cells_has : ∀ {names : List (Str × NameKind)} {n : Nat} {acc : List (Str × Addr)} {x : Str}, (x, .cell) ∈ names → ∃ c, (x, c) ∈ cellsFrom n names acc
  | (m, k) :: r, n, acc, x, h => by
    unfold cellsFrom
    rcases List.mem_cons.mp h with e | h
    · cases e
      exact ⟨n, cells_acc List.mem_cons_self⟩
    · split
      · exact cells_has h
      · exact cells_has h
theorem cells_inj : ∀ {names : List (Str × NameKind)} {h : Heap} {acc : List (Str × Addr)} {x y : Str} {c : Addr}, (∀ p ∈ acc, p.2 < h.objs.size) → (∀ x y c, (x, c) ∈ acc → (y, c) ∈ acc → x = y) →
    (x, c) ∈ cellsFrom h.objs.size names acc → (y, c) ∈ cellsFrom h.objs.size names acc → x = y
  | [], _, _, _, _, _, _, hi, h1, h2 => hi _ _ _ h1 h2
  | (n, k) :: r, h, acc, x, y, c, hl, hi, h1, h2 => by
    unfold cellsFrom at h1 h2
    split at h1
    · rename_i hk
      rw [if_pos hk] at h2
      rw [← Heap.size_push h { cls := .type "cell", data := .cell none }] at h1 h2
      refine cells_inj (h := h.push _) (fun p hp => ?_) (fun x y c a b => ?_) h1 h2
      · rw [Heap.size_push]
        rcases List.mem_cons.mp hp with rfl | hp
        · exact Nat.lt_succ_self _
        · exact Nat.lt_succ_of_lt (hl p hp)
      · rcases List.mem_cons.mp a with e | a <;> rcases List.mem_cons.mp b with e' | b
        · cases e; cases e'; rfl
        · cases e; exact absurd (hl _ b) (Nat.lt_irrefl _)
        · cases e'; exact absurd (hl _ a) (Nat.lt_irrefl _)
        · exact hi _ _ _ a b
    · rename_i hk
      rw [if_neg hk] at h2
      exact cells_inj hl hi h1 h2

theorem newEnv_comp {M : Model} {A : Around} {E : Value → Shared → Prop} {s : Shared} {scope : Scope} {globals : Addr} {closure : List (Str × Addr)} {qual : Str} {func : Option Addr} {code : Value} {around : Env} {builtins : Addr} {Q : Env → Shared → Prop}
    (h : Q (newEnv scope s.heap.objs.size globals (cellsFrom (s.heap.objs.size + 1) scope.names closure) qual func code (some around) builtins)
      { s with heap := pushCells (s.heap.push { cls := .type "dict", data := .dict #[] }) scope.names }) :
    wpAny M A (newFunctionEnv scope globals closure [] qual func code (some around) builtins) Q E s := by
  simp only [newFunctionEnv, Option.isSome_some, if_true]
  refine wpAny_bind (wpAny_alloc ?_)
  refine wpAny_bind (wpAny_layCells _ (fun n k c => rfl) scope.names closure _ _ ?_)
  rw [show ({ s with heap := s.heap.push { cls := .type "dict", data := .dict #[] } } : Shared).heap.objs.size = s.heap.objs.size + 1 from Heap.size_push ..]
  rw [List.forIn_nil]
  exact wpAny_bind (wpAny_pure (wpAny_pure h))

/-- every name of the written scope, in the scope that runs -/
theorem lookup_relS {sc : Scope} : ∀ {names : List (Str × NameKind)} {x : Str} {k : NameKind},
    (names.map fun (n, k) => if (k == NameKind.free && sc.kind == .function && sc.names.lookup n == some .cell) then (n, NameKind.cell) else (n, k)).lookup x = some k →
    ∃ k', names.lookup x = some k' ∧ (k = k' ∨ (k' = .free ∧ k = .cell))
  | [], _, _, h => by simp at h
  | (n, k₀) :: r, x, k, h => by
    have ih := @lookup_relS sc r x k
    have h' : List.lookup x ((if (k₀ == NameKind.free && sc.kind == .function && sc.names.lookup n == some .cell) = true then (n, NameKind.cell) else (n, k₀)) :: (r.map _)) = some k := h
    cases hx : x == n with
    | true =>
      simp only [List.lookup_cons, hx]
      by_cases hc : (k₀ == NameKind.free && sc.kind == .function && sc.names.lookup n == some .cell) = true
      · rw [if_pos hc] at h'
        simp only [List.lookup_cons, hx] at h'
        cases h'
        simp only [Bool.and_eq_true, beq_iff_eq] at hc
        exact ⟨k₀, rfl, .inr ⟨hc.1.1, rfl⟩⟩
      · rw [if_neg hc] at h'
        simp only [List.lookup_cons, hx] at h'
        cases h'
        exact ⟨_, rfl, .inl rfl⟩
    | false =>
      simp only [List.lookup_cons, hx]
      by_cases hc : (k₀ == NameKind.free && sc.kind == .function && sc.names.lookup n == some .cell) = true
      · rw [if_pos hc] at h'
        simp only [List.lookup_cons, hx] at h'
        exact ih h'
      · rw [if_neg hc] at h'
        simp only [List.lookup_cons, hx] at h'
        exact ih h'
/-- the names of a comprehension's block: its own (with their places in N), or captured -/
structure BlkOk (N : List Str) (sc scope : Scope) (own : List (Str × Nat)) : Prop where
  kind : scope.kind = .function
  uniq : ∀ y ∈ scope.names, scope.names.lookup y.1 = some y.2
  ix : ∀ p ∈ own, N[p.2]? = some p.1
  free : ∀ y ∈ scope.names, y.2 = .free → sc.names.lookup y.1 = some .cell ∨ sc.names.lookup y.1 = some .free
  own : ∀ y ∈ scope.names, y.2 = .local ∨ y.2 = .cell → y.1 ∈ own.map (·.1) ∨ y.1 ∉ N
/-- the slots of the block's own names forgotten -/
def wipe (σ : St) : List Nat → St
  | [] => σ
  | v :: vs => (wipe σ vs).set v none
theorem wipe_length (σ : St) : ∀ vs : List Nat, (wipe σ vs).length = σ.length
  | [] => rfl
  | v :: vs => by unfold wipe; rw [List.length_set, wipe_length σ vs]
theorem wipe_some {σ : St} {i : Nat} {x : V} : ∀ {vs : List Nat}, (wipe σ vs)[i]? = some (some x) → σ[i]? = some (some x) ∧ i ∉ vs
  | [], h => ⟨h, by simp⟩
  | v :: vs, h => by
    unfold wipe at h
    by_cases hi : v = i
    · subst hi
      by_cases hv : v < (wipe σ vs).length
      · rw [List.getElem?_set_self hv] at h; cases h
      · rw [List.getElem?_eq_none (by simpa using hv)] at h; cases h
    · rw [List.getElem?_set_ne hi] at h
      obtain ⟨h1, h2⟩ := wipe_some h
      exact ⟨h1, by simp only [List.mem_cons, not_or]; exact ⟨fun e => hi e.symm, h2⟩⟩

/-- the context of a block that starts at s, its iterator's objects at fp -/
abbrev Cx.blk (X : Cx) (s : Shared) (H : Hp) (scope : Scope) (cenv : Env) (fp : List Addr) : Cx := { X with s_0 := s, H_0 := H, env := cenv, outer := X.stack, ex := fp, fn := fun x => scope.names.lookup x == some .cell, pn := [], xe := fun _ _ => False }
section
variable {X : Cx} {pins : List (Addr × Obj)} {σ : St} {H : Hp} {s : Shared}
theorem block_start {scope : Scope} {own : List (Str × Nat)} {fp : List Addr} (I : Inv X pins σ H s) (ok : BlkOk X.N X.env.scope scope own) (hN : X.N.Nodup) (hfp : ∀ b ∈ fp, FpOk X pins H b ∧ b < s.heap.objs.size) :
    Inv (X.blk s H scope (compEnvC scope (cellsFrom (s.heap.objs.size + 1) scope.names (cloFrom X.env.cells scope.names [])) s.heap.objs.size X.env) fp) [] (wipe σ (own.map (·.2))) H { s with heap := pushCells (s.heap.push { cls := .type "dict", data := .dict #[] }) scope.names } := by
  have hfree : ∀ y ∈ scope.names, y.2 = .free → ∃ c, X.env.cells.lookup y.1 = some c := fun y hy e => by
    rcases ok.free y hy e with k | k
    · exact I.ok.has _ (.inl k)
    · exact I.ok.has _ (.inr k)
  generalize hcenv : compEnvC scope (cellsFrom (s.heap.objs.size + 1) scope.names (cloFrom X.env.cells scope.names [])) s.heap.objs.size X.env = cenv
  have kp : ∀ b o, s.heap.get? b = some o → (pushCells (s.heap.push { cls := .type "dict", data := .dict #[] }) scope.names).get? b = some o := fun b o e => pushCells_keeps _ _ _ _ (Heap.get?_push_of_some _ e)
  have hL : cenv.locals = s.heap.objs.size := by rw [← hcenv]; rfl
  have hcl : cenv.cells = cellsFrom (s.heap.objs.size + 1) scope.names (cloFrom X.env.cells scope.names []) := by rw [← hcenv]; rfl
  have hsc : cenv.scope = relS scope X.env.scope := by rw [← hcenv]; rfl
  rw [← Heap.size_push s.heap { cls := .type "dict", data := .dict #[] }] at hcl
  have cm : ∀ {y c}, (y, c) ∈ cloFrom X.env.cells scope.names [] → X.env.cells.lookup y = some c ∧ c < s.heap.objs.size := fun {y c} hm => by
    rcases cloFrom_mem hm with hm | ⟨h1, rfl⟩
    · cases hm
    · obtain ⟨c, hc⟩ := hfree _ h1 rfl
      rw [hc]
      obtain ⟨w, z⟩ := I.cell _ _ hc
      exact ⟨rfl, z.lt⟩
  have mem : ∀ {y c}, cenv.cells.lookup y = some c → (X.env.cells.lookup y = some c ∧ c < s.heap.objs.size) ∨ (s.heap.objs.size + 1 ≤ c ∧ CellAt (pushCells (s.heap.push { cls := .type "dict", data := .dict #[] }) scope.names) c none) := fun {y c} e => by
    rw [hcl] at e
    rcases cells_mem (PySem.mem_of_lookup e) with hm | ⟨_, h2, h3⟩
    · exact .inl (cm hm)
    · rw [Heap.size_push] at h2; exact .inr ⟨h2, h3⟩
  have look : ∀ {y}, scope.names.lookup y = some .free → ∃ c, cenv.cells.lookup y = some c ∧ X.env.cells.lookup y = some c := fun {y} hl => by
    have hy : (y, NameKind.free) ∈ scope.names := PySem.mem_of_lookup hl
    obtain ⟨c', e'⟩ := mem_lookup (cells_acc (names := scope.names) (n := (s.heap.push { cls := .type "dict", data := .dict #[] }).objs.size) (cloFrom_has (cells := X.env.cells) (acc := []) hy))
    rw [← hcl] at e'
    refine ⟨c', e', ?_⟩
    rw [hcl] at e'
    rcases cells_mem (PySem.mem_of_lookup e') with hm | ⟨h1, _, _⟩
    · exact (cm hm).1
    · have := ok.uniq _ h1
      rw [hl] at this; cases this
  have okB : (X.blk s H scope cenv fp).Ok := by
    refine ⟨I.ok.mod, by show cenv.scope.kind = _; rw [hsc]; exact ok.kind, by show cenv.globals = _; rw [← hcenv]; exact I.ok.glob, by show cenv.builtins = _; rw [← hcenv]; exact I.ok.blt, by show s.heap.objs.size ≤ cenv.locals; rw [hL]; exact Nat.le_refl _,
      fun y z c e1 e2 => ?_, fun y hy => ?_, fun y c z e => ?_, I.ok.hd, I.ok.frames, .inl rfl, fun b hb => ⟨?_, fun y c e z => ?_⟩, I.bs, Nat.le_trans I.ok.bsz I.sz, fun b o e hb => ?_, fun b hb z => ?_, I.stack, I.stkFree⟩
    · have e1 : cenv.cells.lookup y = some c := e1
      have e2 : cenv.cells.lookup z = some c := e2
      rw [hcl] at e1 e2
      refine cells_inj (fun p hp => ?_) (fun y z c a b => I.ok.inj y z c (cm a).1 (cm b).1) (PySem.mem_of_lookup e1) (PySem.mem_of_lookup e2)
      rw [Heap.size_push]
      exact Nat.lt_succ_of_lt (cm (y := p.1) (c := p.2) hp).2
    · show ∃ c, cenv.cells.lookup y = some c
      have key : ∀ k, cenv.kindOf y = some k → (k = .cell ∨ k = .free) → ∃ c, cenv.cells.lookup y = some c := fun k hk hk' => by
        unfold Env.kindOf at hk
        rw [hsc] at hk
        obtain ⟨k', e, r⟩ := lookup_relS hk
        have : k' = .cell ∨ k' = .free := by
          rcases r with rfl | ⟨rfl, _⟩
          · exact hk'
          · exact .inr rfl
        rcases this with rfl | rfl
        · obtain ⟨c, hm⟩ := cells_has (n := (s.heap.push { cls := .type "dict", data := .dict #[] }).objs.size) (acc := cloFrom X.env.cells scope.names []) (PySem.mem_of_lookup e)
          obtain ⟨c', e'⟩ := mem_lookup hm
          exact ⟨c', by rw [hcl]; exact e'⟩
        · obtain ⟨c, h1, _⟩ := look e
          exact ⟨c, h1⟩
      rcases hy with hy | hy
      · exact key _ hy (.inl rfl)
      · exact key _ hy (.inr rfl)
    · have z : (scope.names.lookup y == some NameKind.cell) = true := z
      have z : scope.names.lookup y = some .cell := by simpa using z
      have e : cenv.cells.lookup y = some c := e
      rw [hcl] at e
      rcases cells_mem (PySem.mem_of_lookup e) with hm | ⟨_, h2, _⟩
      · rcases cloFrom_mem hm with hm | ⟨h1, _⟩
        · cases hm
        · have q := ok.uniq _ h1
          rw [z] at q; cases q
      · rw [Heap.size_push] at h2
        exact Nat.le_of_succ_le h2
    · show b ≠ cenv.locals
      rw [hL]; exact Nat.ne_of_lt (hfp b hb).2
    · have e : cenv.cells.lookup y = some c := e
      rcases mem e with ⟨h1, _⟩ | ⟨h1, _⟩
      · exact (hfp b hb).1.2.2.2.2.1 y c h1 z
      · have h2 : s.heap.objs.size + 1 ≤ b := by rw [← z]; exact h1
        exact absurd (Nat.lt_of_lt_of_le (hfp b hb).2 (Nat.le_of_succ_le h2)) (Nat.lt_irrefl _)
    · rcases (hfp b hb).1.2.2.2.1 with z | z
      · exact I.ok.noex b o e z
      · exact absurd (Nat.lt_of_lt_of_le (Heap.lt_size e) (Nat.le_trans I.ok.bsz z)) (Nat.lt_irrefl _)
    · rcases List.mem_cons.mp (I.stkSub b z) with z | z
      · exact (hfp b hb).1.2.1 z
      · exact (hfp b hb).1.2.2.1 z
  refine ⟨okB, rfl, I.bare, Un.kept kp, ⟨fun _ => none, ?_, fun i y av e1 e2 e3 => ?_⟩, fun y c e => ?_, ?_, fun y c e => ?_, fun p hp => ?_, I.hok.kept kp, by rw [wipe_length]; exact I.len⟩
  · show Heap.Ns _ cenv.locals _
    rw [hL]
    exact Heap.Ns.keeps (Heap.Ns.new ..) fun b o e => pushCells_keeps _ _ _ _ e
  · obtain ⟨e2, hne⟩ := wipe_some e2
    have hfr : scope.names.lookup y = some .free ∧ (cenv.kindOf y = some .cell ∨ cenv.kindOf y = some .free) := by
      have key : ∀ k, cenv.scope.names.lookup y = some k → k = .local ∨ k = .cell ∨ k = .free → scope.names.lookup y = some .free ∧ (cenv.kindOf y = some .cell ∨ cenv.kindOf y = some .free) := fun k hk hk' => by
        have hk0 := hk
        rw [hsc] at hk
        obtain ⟨k', e, r⟩ := lookup_relS hk
        have no : ¬ (k' = .local ∨ k' = .cell) := fun hh => by
          rcases ok.own _ (PySem.mem_of_lookup e) hh with e' | e'
          · obtain ⟨p, hp, hpy⟩ := List.mem_map.mp e'
            have e3 := ok.ix p hp
            have : p.1 = y := hpy
            rw [this] at e3
            exact hne (List.mem_map.mpr ⟨p, hp, nodup_ix hN e3 e1⟩)
          · exact e' (List.mem_of_getElem? e1)
        rcases r with rfl | ⟨rfl, rfl⟩
        · rcases hk' with rfl | rfl | rfl
          · exact absurd (.inl rfl) no
          · exact absurd (.inr rfl) no
          · exact ⟨e, .inr hk0⟩
        · exact ⟨e, .inl hk0⟩
      have e3 : Vis cenv.scope y := e3
      rcases e3 with e3 | e3 | e3
      · exact key _ e3 (.inl rfl)
      · exact key _ e3 (.inr (.inl rfl))
      · exact key _ e3 (.inr (.inr rfl))
    obtain ⟨m, hn, hl⟩ := I.loc
    have hvis : Vis X.env.scope y := (ok.free _ (PySem.mem_of_lookup hfr.1) rfl).elim (fun k => .inr (.inl k)) (fun k => .inr (.inr k))
    obtain ⟨w, r, q⟩ := hl i y av e1 e2 hvis
    refine ⟨w, r, .inr ⟨hfr.2, ?_⟩⟩
    obtain ⟨c, h1, h2⟩ := look hfr.1
    rcases q with ⟨k, _⟩ | ⟨_, c', e', z⟩
    · have k : X.env.scope.names.lookup y = some .local := k
      rcases ok.free _ (PySem.mem_of_lookup hfr.1) rfl with k' | k' <;> rw [show X.env.scope.names.lookup y = _ from k'] at k <;> cases k
    · rw [h2] at e'; cases e'
      exact ⟨c, h1, z.keeps kp⟩
  · have e : cenv.cells.lookup y = some c := e
    rcases mem e with ⟨h1, _⟩ | ⟨_, z⟩
    · obtain ⟨w, z⟩ := I.cell y c h1
      exact ⟨w, z.keeps kp⟩
    · exact ⟨_, z⟩
  · show H cenv.locals = none
    rw [hL]; exact I.hok.fresh (Nat.le_refl _)
  · have e : cenv.cells.lookup y = some c := e
    rcases mem e with ⟨h1, _⟩ | ⟨h1, _⟩
    · exact I.freeC y c h1
    · exact I.hok.fresh (Nat.le_of_succ_le h1)
  · exact absurd (show p ∈ ([] : List (Addr × Obj)) ++ [] from hp) (by simp)

/-- an item appended to a tracked list -/
theorem app_ok {E : Value → Shared → Prop} {D : Addr} {xs : List V} {y : V} {v : Value} {Q : Value → Shared → Prop} (I : Inv X pins σ H s) (hD : H D = some (.lst xs)) (hz : xs.length < sizeLine) (r : RelV y v)
    (h : ∀ s', Inv X pins σ (upd H D (.lst (xs ++ [y]))) s' → Q .none s') : wpAny (model X.prog X.w) X.A (call (.builtin "list.append") [.ref D, v]) Q E s := by
  obtain ⟨hz', its, n, ri, e⟩ := I.hok D _ hD
  have hl := ri.length
  refine append_at (hsz := by rw [List.size_toArray]; omega) e fun h' sb ho' => ?_
  refine h { s with heap := h' } (I.write (t' := s.toks) (by rw [hD]; trivial) (.inl rfl) (fun b u hb q => (sb.2 b hb).trans q) ⟨_, ho'⟩ ⟨by rw [List.length_append]; exact hz, its ++ [v], n + 1, ri.append (.cons r .nil), ?_⟩)
  rw [ho']
  simp

/-- a clause's tests -/
def PTs (X : Cx) (ifs : List Expr) (t : TT) : Prop :=
  ∀ (pins : List (Addr × Obj)) (s : Shared) (σ : St) (H : Hp) (Q : Bool → Hp → Prop), Inv X pins σ H s → t σ H Q →
    wpAny (model X.prog X.w) X.A (forIn ifs true fun c r => if r = true then do let ok ← isTrue c X.env (eval c X.env); pure (ForInStep.yield ok) else pure (ForInStep.yield r)) (TP X pins σ Q) X.xe s
def tYes : TT := fun _ H Q => Q true H
theorem pts_nil : PTs X [] tYes := fun _ _ _ H _ I h => wpAny_tests_nil ⟨H, I, h⟩
theorem pts_one {c : Expr} {t : TT} (h : PT X c t) : PTs X [c] t := fun pins s σ H Q I hw => wpAny_tests_one (h pins s σ H Q I hw)
end

theorem thnF {α : Type} {t : Sem α} {Q Q' : α → Shared → Prop} {M : Model} {A : Around} {E : Value → Shared → Prop} {s : Shared} (h : wpAny M A t Q (fun _ _ => False) s) (hQ : ∀ a s, Q a s → Q' a s) : wpAny M A t Q' E s := wpAny_mono h hQ fun _ _ z => False.elim z

/-- the loop of a list comprehension's block, the target of any form (codeAny_compLoop_tests asks a target that no tuple goes to; statement and proof follow it, PyProof/CompMap.lean:41-61, with the step letOwnedTupleGo kept) -/
theorem compLoop_any {prog : Program} {w : World} {A : Around} {R : Result → Shared → Prop} {s : Shared} {elt target iter : Expr} {ifs : List Expr} {scope : Scope} {pos : Pos} {it acc : Value} {env : Env} (I : Nat → Shared → Prop)
    (turn : ∀ n s, I n s → wpAny (model prog w) A (pyNext it) (fun r s₁ => match r with
      | none => R (.ok .next) s₁
      | some v => wpAny (model prog w) A (letOwnedTupleGo target it v) (fun _ s₁' => wpAny (model prog w) A (assign target env v) (fun _ s₂ =>
          wpAny (model prog w) A (forIn ifs true fun c r => if r = true then do let ok ← isTrue c env (eval c env); pure (ForInStep.yield ok) else pure (ForInStep.yield r)) (fun ok s₃ =>
            if ok = true then wpAny (model prog w) A (eval elt env) (fun x s₄ =>
              wpAny (model prog w) A (call (.builtin "list.append") [acc, x]) (fun _ s₅ => ∃ m, m < n ∧ I m s₅) (notedBy (model prog w) A env fun e s' => R (.error e) s') s₄) (notedBy (model prog w) A env fun e s' => R (.error e) s') s₃
            else ∃ m, m < n ∧ I m s₃) (notedBy (model prog w) A env fun e s' => R (.error e) s') s₂) (notedBy (model prog w) A env fun e s' => R (.error e) s') s₁') (notedBy (model prog w) A env fun e s' => R (.error e) s') s₁) (notedBy (model prog w) A env fun e s' => R (.error e) s') s)
    (n : Nat) (h : I n s) :
    codeAny (model prog w) A (.compLoop (.ListComp elt [⟨target, iter, ifs, 0⟩] scope pos) 0 it acc env) R s := by
  refine codeAny_loop rfl I (fun n s hI => ?_) n h
  show wpAny _ A ((compTurn (.ListComp elt [⟨target, iter, ifs, 0⟩] scope pos) 0 it acc env).onRaise (fun x => do noteFrame x env; theTreesLotGoes x)) _ _ s
  refine wpAny_noted ?_
  rw [compTurn_list]
  refine wpAny_bind (wpAny_standAt (wpAny_bind (wpAny_mono (turn n s hI) (fun r s₁ h₁ => ?_) fun _ _ h' => h')))
  cases r with
  | none => exact wpAny_pure h₁
  | some v =>
    refine wpAny_bind (wpAny_mono h₁ (fun _ s₁' h₁' => ?_) fun _ _ h' => h')
    refine wpAny_bind (wpAny_mono h₁' (fun _ s₂ h₂ => wpAny_bind (wpAny_mono h₂ (fun ok s₃ h₃ => ?_) fun _ _ h' => h')) fun _ _ h' => h')
    cases ok with
    | false => exact wpAny_pure ⟨rfl, h₃⟩
    | true =>
      exact wpAny_bind (wpAny_bind (wpAny_mono h₃ (fun x s₄ h₄ => wpAny_bind (wpAny_mono h₄ (fun _ s₅ h₅ => wpAny_pure (wpAny_pure ⟨rfl, h₅⟩)) fun _ _ h' => h')) fun _ _ h' => h'))

section
variable {X : Cx}
/-- [elt for target in iter if ..]: D the new list; W by the turn and a measure, Nx what a turn is to reach -/
def tLc (wi : TI) (g : TG) (tt : TT) (te : TE) (vs : List Nat) : TE := fun σ H Q => wi σ H fun J H1 => ∀ D, H1 D = none → ∃ W : Nat → Nat → Hp → Prop, (∃ m, W 0 m (upd H1 D (.lst []))) ∧ ∀ i m H, W i m H →
  (J.stop i H ∧ Q (.ref D) H) ∨ (J.go i H ∧ ∃ Nx : Hp → Prop, (∀ H', Nx H' → ∃ m', m' < m ∧ W (i + 1) m' H') ∧ ∀ x H', J.yld i H x H' → g x (wipe σ vs) H' fun σ2 H2 => wipe σ2 vs = wipe σ vs ∧ tt σ2 H2 fun b H3 =>
    if b = true then te σ2 H3 fun y H4 => ∃ acc, H4 D = some (.lst acc) ∧ acc.length < sizeLine ∧ Nx (upd H4 D (.lst (acc ++ [y]))) else Nx H3)
theorem lc_core {pins : List (Addr × Obj)} {s : Shared} {σ : St} {H : Hp} {Q : VK} {elt tg iter : Expr} {ifs : List Expr} {scope : Scope} {own : List (Str × Nat)} {pos pos' : Pos} {wi : TI} {g : TG} {tt : TT} {te : TE} {use : Option (Value → Sem Unit)} {Qf : Value → Shared → Prop}
    (hc : X.calm = true) (hN : X.N.Nodup) (I : Inv X pins σ H s) (hi : PI X tg iter wi) (ok : BlkOk X.N X.env.scope scope own)
    (hg : ∀ (s : Shared) (H : Hp) (C : Addr) (cl : List (Str × Addr)) (fp : List Addr), PG (X.blk s H scope (compEnvC scope cl C X.env) fp) tg g) (ht : ∀ (s : Shared) (H : Hp) (C : Addr) (cl : List (Str × Addr)) (fp : List Addr), PTs (X.blk s H scope (compEnvC scope cl C X.env) fp) ifs tt)
    (he : ∀ (s : Shared) (H : Hp) (C : Addr) (cl : List (Str × Addr)) (fp : List Addr), PE (X.blk s H scope (compEnvC scope cl C X.env) fp) elt te) (hs : ∀ x, foldedSetIterable iter X.env x = pure x)
    (h : tLc wi g tt te (own.map (·.2)) σ H Q)
    (hRR : ∀ D C s' m H', Inv X pins σ H' s' → Q (.ref D) H' → s'.heap.Ns C m → FpOk X pins H' C → compPost (model X.prog X.w) X.A X.xe use Qf (.ref D) C (.ok .next) s') :
    wpAny (model X.prog X.w) X.A (comprehension (.ListComp elt [⟨tg, iter, ifs, 0⟩] scope pos) scope X.env pos' (newList []) false (eval iter X.env) use) Qf X.xe s := by
  have hfree : ∀ y ∈ scope.names, y.2 = .free → ∃ c, X.env.cells.lookup y.1 = some c := fun y hy e => by
    rcases ok.free y hy e with k | k
    · exact I.ok.has _ (.inl k)
    · exact I.ok.has _ (.inr k)
  refine wpAny_comprehension_free (use := use) rfl hs (closure_ok hfree) ok.kind (fun y hy e => by rw [ok.uniq y hy, e])
    (thn (hi pins s σ H _ I h) fun xv s1 hx => thn hx fun itv s2 h2 => ?_)
  obtain ⟨it, fp, tn, J, H2, e, I2, T, st2, f2, q⟩ := h2
  subst e
  refine wpAny_newObj_type (newEnv_comp ?_) (by show 0 ≤ sizeLine; decide)
  generalize hD : s2.heap.objs.size = D
  have hDn : H2 D = none := I2.hok.fresh (Nat.le_of_eq hD)
  obtain ⟨W, ⟨m0, w0⟩, turn⟩ := q D hDn
  -- the new list
  generalize hs3 : ({ s2 with heap := s2.heap.push { cls := .type "list", data := .seq ([] : List Value).toArray } } : Shared) = s3
  have I3 : Inv X pins σ (upd H2 D (.lst [])) s3 := by
    rw [← hs3]
    refine I2.laid (t' := s2.toks) (fun b o e => Heap.get?_push_of_some _ e) (Nat.le_of_eq hD) ⟨Nat.zero_le _, [], 0, .nil, ?_⟩
    rw [← hD]
    exact Heap.get?_push_size _ rfl
  have h3 : s3.heap = s2.heap.push { cls := .type "list", data := .seq ([] : List Value).toArray } := by rw [← hs3]
  have sz : ∀ b ∈ fp, b < s2.heap.objs.size := fun b hb => by
    obtain ⟨o, e, _⟩ := T.obj _ _ st2 b hb
    exact Heap.lt_size e
  have f3 : ∀ b ∈ fp, FpOk X pins (upd H2 D (.lst [])) b ∧ b < s3.heap.objs.size := fun b hb => by
    have hlt := sz b hb
    refine ⟨⟨?_, (f2 b hb).2⟩, by rw [h3, Heap.size_push]; exact Nat.lt_succ_of_lt hlt⟩
    rw [upd_ne (by rw [← hD]; exact Nat.ne_of_lt hlt)]
    exact (f2 b hb).1
  have st3 : tn 0 s3.heap := T.keep _ _ _ st2 fun b _ o e => by rw [h3]; exact Heap.get?_push_of_some _ e
  have I4 := block_start I3 ok hN f3
  have pg := hg s3 (upd H2 D (.lst [])) s3.heap.objs.size (cellsFrom (s3.heap.objs.size + 1) scope.names (cloFrom X.env.cells scope.names [])) fp
  have pt := ht s3 (upd H2 D (.lst [])) s3.heap.objs.size (cellsFrom (s3.heap.objs.size + 1) scope.names (cloFrom X.env.cells scope.names [])) fp
  have pe := he s3 (upd H2 D (.lst [])) s3.heap.objs.size (cellsFrom (s3.heap.objs.size + 1) scope.names (cloFrom X.env.cells scope.names [])) fp
  show codeAny _ _ (.compStart (.ListComp elt [⟨tg, iter, ifs, 0⟩] scope pos) 0 (.ref it) (.ref D) (compEnvC scope (cellsFrom (s3.heap.objs.size + 1) scope.names (cloFrom X.env.cells scope.names [])) s3.heap.objs.size X.env)) (compPost (model X.prog X.w) X.A X.xe use Qf (.ref D) s3.heap.objs.size) { s3 with heap := pushCells (s3.heap.push { cls := .type "dict", data := .dict #[] }) scope.names }
  have nfp : ∀ b ∈ fp, (upd H2 D (.lst [])) b = none := fun b hb => (f3 b hb).1.1
  generalize hce : compEnvC scope (cellsFrom (s3.heap.objs.size + 1) scope.names (cloFrom X.env.cells scope.names [])) s3.heap.objs.size X.env = ce at I4 pg pt pe ⊢
  have cL : ce.locals = s3.heap.objs.size := by subst hce; rfl
  generalize hH3 : upd H2 D (.lst []) = H3 at I3 I4 pg pt pe w0 nfp f3
  generalize hs4 : ({ s3 with heap := pushCells (s3.heap.push { cls := .type "dict", data := .dict #[] }) scope.names } : Shared) = s4 at I4 ⊢
  have st4 : tn 0 s4.heap := T.keep _ _ _ st3 fun b _ o e => by rw [← hs4]; exact pushCells_keeps _ _ _ _ (Heap.get?_push_of_some _ e)
  have stat : ∀ {σ' : St} {H' : Hp} {s' : Shared}, Inv (X.blk s3 H3 scope ce fp) [] σ' H' s' → (∀ b ∈ fp, H' b = none) → ∀ b ∈ fp, FpOk (X.blk s3 H3 scope ce fp) [] H' b := fun {σ' H' s'} I' hn b hb =>
    ⟨hn b hb, (I'.ok.exf b hb).1, I'.ok.exfs b hb, .inl hb, fun x c e => (I'.ok.exf b hb).2 x c e, fun p hp => absurd (show p ∈ ([] : List (Addr × Obj)) ++ [] from hp) (by simp)⟩
  have loop : codeAny (model X.prog X.w) X.A (.compLoop (.ListComp elt [⟨tg, iter, ifs, 0⟩] scope pos) 0 (.ref it) (.ref D) ce) (compPost (model X.prog X.w) X.A X.xe use Qf (.ref D) s3.heap.objs.size) s4 := by
    refine compLoop_any (fun n s' => ∃ i H', Inv (X.blk s3 H3 scope ce fp) [] (wipe σ (own.map (·.2))) H' s' ∧ tn i s'.heap ∧ (∀ b ∈ fp, H' b = none) ∧ W i n H') ?_ m0 ⟨0, H3, I4, st4, nfp, w0⟩
    rintro n s5 ⟨i, H5, I5, st5, n5, w5⟩
    rcases turn i n H5 w5 with ⟨stop, qq⟩ | ⟨go, Nx, hNx, step⟩
    · have td := T.done (X.blk s3 H3 scope ce fp) rfl rfl rfl hc i [] s5 _ H5 (fun _ _ => False) I5 (stat I5 n5) st5 stop
      refine thnF td fun r s6 ⟨hr, I6⟩ => ?_
      subst hr
      -- back in the def's context
      have I7 : Inv X pins σ H5 s6 := I3.call' (ch := fp) I6.os I6.base I6.hok I6.bare fun b hb => ⟨(f3 b hb).1.2.2.2.1, (f3 b hb).1.2.1, (f3 b hb).1.2.2.2.2.1, (f3 b hb).1.2.2.2.2.2⟩
      have nC : H5 s3.heap.objs.size = none := by
        have z : H5 ce.locals = none := I6.free
        rw [cL] at z
        exact z
      obtain ⟨m, hn, _⟩ := I6.loc
      have hn : s6.heap.Ns ce.locals m := hn
      rw [cL] at hn
      exact hRR D s3.heap.objs.size s6 m H5 I7 qq hn (I3.fpOk (Nat.le_refl _) nC)
    · have ti := T.item (X.blk s3 H3 scope ce fp) rfl rfl rfl hc i [] s5 _ H5 (fun _ _ => False) I5 (stat I5 n5) st5 go
      refine thnF ti fun r s6 ⟨u, hr, h6⟩ => ?_
      subst hr
      refine thnF h6 fun _ s7 ⟨x, H7, I7, r7, y7, st7, n7⟩ => ?_
      have I7' := I7.pinned (stat I7 n7) (T.obj _ _ st7)
      refine thnF (pg _ s7 _ H7 x u _ I7' r7 (step x H7 y7)) fun _ s8 ⟨σ8, H8, I8, hw8, q8⟩ => ?_
      refine thnF (pt _ s8 σ8 H8 _ I8 q8) fun b s9 ⟨H9, I9, q9⟩ => ?_
      -- the turn's end
      have fin : ∀ {s' : Shared} {H' : Hp}, Inv (X.blk s3 H3 scope ce fp) ([] ++ pinsAt fp s7.heap) σ8 H' s' → Nx H' → ∃ m, m < n ∧ ∃ i H', Inv (X.blk s3 H3 scope ce fp) [] (wipe σ (own.map (·.2))) H' s' ∧ tn i s'.heap ∧ (∀ b ∈ fp, H' b = none) ∧ W i m H' := fun {s' H'} I' nx => by
        obtain ⟨m', hm, w'⟩ := hNx H' nx
        have pin' : ∀ b ∈ fp, ∀ o, s7.heap.get? b = some o → s'.heap.get? b = some o ∧ H' b = none := fun b hb o e =>
          let z := I'.pin (b, o) (List.mem_append_right _ (List.mem_append_right _ (mem_pinsAt hb e)))
          ⟨z.1, z.2.1⟩
        have hl : (wipe σ (own.map (·.2))).length = σ8.length := by rw [← hw8, wipe_length]
        refine ⟨m', hm, i + 1, H', (I'.unpinned (pins := [])).weak hl (fun j v e => ?_), T.keep _ _ _ st7 fun b hb o e => (pin' b hb o e).1, fun b hb => ?_, w'⟩
        · rw [← hw8] at e
          exact (wipe_some e).1
        · obtain ⟨o, e, _⟩ := T.obj _ _ st7 b hb
          exact (pin' b hb o e).2
      cases b with
      | false =>
        simp only [Bool.false_eq_true, if_false] at q9 ⊢
        exact fin I9 q9
      | true =>
        simp only [if_true] at q9 ⊢
        refine thnF (pe _ s9 σ8 H9 _ I9 q9) fun z s10 ⟨yv, H10, I10, r10, acc, hD10, hz10, nx⟩ => ?_
        exact app_ok (X := X.blk s3 H3 scope ce fp) I10 hD10 hz10 r10 fun s11 I11 => fin I11 nx
  exact codeAny_compStart_list loop (T.self X.A 0 _ _ _ st4 loop)
/-- as a value -/
theorem pe_lc {elt tg iter : Expr} {ifs : List Expr} {scope : Scope} {own : List (Str × Nat)} {pos : Pos} {wi : TI} {g : TG} {tt : TT} {te : TE} (hc : X.calm = true) (hN : X.N.Nodup) (hi : PI X tg iter wi) (ok : BlkOk X.N X.env.scope scope own)
    (hg : ∀ (s : Shared) (H : Hp) (C : Addr) (cl : List (Str × Addr)) (fp : List Addr), PG (X.blk s H scope (compEnvC scope cl C X.env) fp) tg g) (ht : ∀ (s : Shared) (H : Hp) (C : Addr) (cl : List (Str × Addr)) (fp : List Addr), PTs (X.blk s H scope (compEnvC scope cl C X.env) fp) ifs tt)
    (he : ∀ (s : Shared) (H : Hp) (C : Addr) (cl : List (Str × Addr)) (fp : List Addr), PE (X.blk s H scope (compEnvC scope cl C X.env) fp) elt te) (hs : ∀ x, foldedSetIterable iter X.env x = pure x := by intro _; rfl) :
    PE X (.ListComp elt [⟨tg, iter, ifs, 0⟩] scope pos) (tLc wi g tt te (own.map (·.2))) := by
  intro pins s σ H Q I h
  rw [eval_ListComp]
  refine lc_core hc hN I hi ok hg ht he hs h fun D C s' m H' I' q hn f => ⟨m, hn, fun h'' sb => ?_⟩
  obtain ⟨f0, f1, f2, f3, f4, f5⟩ := f
  exact ⟨.ref D, H', I'.turned (t' := s'.toks) (fun b o hb e => (sb.2 b hb).trans e) f0 f1 f3 f4 f5, rfl, q⟩
/-- name = [..] on one line, the name a local -/
theorem ps_setLc {i : Nat} {y : Str} {py : Pos} {elt tg iter : Expr} {ifs : List Expr} {scope : Scope} {own : List (Str × Nat)} {pos spos : Pos} {wi : TI} {g : TG} {tt : TT} {te : TE} (hc : X.calm = true) (hN : X.N.Nodup) (hy : X.N[i]? = some y) (hyl : X.env.scope.names.lookup y = some .local)
    (hsw : swapsWith (.ListComp elt [⟨tg, iter, ifs, 0⟩] scope pos) (some (.Name y py)) spos.line X.env = pure true) (hi : PI X tg iter wi) (ok : BlkOk X.N X.env.scope scope own)
    (hg : ∀ (s : Shared) (H : Hp) (C : Addr) (cl : List (Str × Addr)) (fp : List Addr), PG (X.blk s H scope (compEnvC scope cl C X.env) fp) tg g) (ht : ∀ (s : Shared) (H : Hp) (C : Addr) (cl : List (Str × Addr)) (fp : List Addr), PTs (X.blk s H scope (compEnvC scope cl C X.env) fp) ifs tt)
    (he : ∀ (s : Shared) (H : Hp) (C : Addr) (cl : List (Str × Addr)) (fp : List Addr), PE (X.blk s H scope (compEnvC scope cl C X.env) fp) elt te) (hs : ∀ x, foldedSetIterable iter X.env x = pure x := by intro _; rfl) :
    PS X (.Assign [.Name y py] (.ListComp elt [⟨tg, iter, ifs, 0⟩] scope pos) spos) (tAsg (tLc wi g tt te (own.map (·.2))) (gName i)) := by
  intro pins s σ H D I h
  rw [exec_Assign_Name_used _ _ _ _ hsw]
  refine wpAny_bind (wpAny_standAt (wpAny_bind ?_))
  show wpAny _ X.A (do let _ ← comprehension (.ListComp elt [⟨tg, iter, ifs, 0⟩] scope pos) scope X.env (firstIterPos [⟨tg, iter, ifs, 0⟩] pos) (newList []) false (eval iter X.env) (some (assign (.Name y py) X.env))) _ _ s
  have h : tLc wi g tt te (own.map (·.2)) σ H (fun x H1 => gName i x σ H1 D.nx) := h
  refine wpAny_bind (thn (lc_core (Qf := fun _ s' => SP X pins D .next s') hc hN I hi ok hg ht he hs h fun L C s' m H' I' q hn f => ?_) fun _ s' hq => wpAny_pure (wpAny_pure hq))
  show wpAny _ _ (assign (.Name y py) X.env (.ref L)) _ _ _
  refine wpAny_assign_Name (store_ok2 (v := V.ref L) I' hN hy (.inl hyl) rfl (fun s2 I2 ⟨a, sb, ha⟩ => ?_) (.inr hyl))
  obtain ⟨f0, f1, f2, f3, f4, f5⟩ := f
  have haC : C ≠ a := by
    rcases ha with z | z
    · rw [z]; exact f1
    · exact fun e => f4 y a z e.symm
  refine ⟨m, hn.sameBut sb haC, fun h3 sb3 => ?_⟩
  exact ⟨_, H', I2.turned (t' := s2.toks) (fun b o hb e => (sb3.2 b hb).trans e) f0 f1 f3 f4 f5, q⟩
theorem sw_true {elt : Expr} {gs : List Comprehension} {scope : Scope} {pos py : Pos} {y : Str} {l : Nat} {env : Env} (hk : env.scope.kind = .function) (hy : env.scope.names.lookup y = some .local) (hl : (py.line == pos.line) = true)
    (ha : (scope.names.any fun (n, k) => n == y && (k == .local || k == .cell)) = false) : swapsWith (.ListComp elt gs scope pos) (some (.Name y py)) l env = pure true := by
  have ky : env.kindOf y = some .local := hy
  have hb : env.blockKind = .function := by unfold Env.blockKind; rw [hk]; rfl
  unfold swapsWith
  simp only [hb, ky, ha, Expr.pos, hl]
  rfl
end

/-! ### the forms one uses -/
/-- over a list that the block leaves as it is -/
theorem lc_list {K : PySem.W.Frag} {a : Addr} {xs : List V} {g : TG} {tt : TT} {te : TE} {vs : List Nat} {σ : St} {H1 : Hp} {D : Addr} {Qd : Hp → Prop} (Pv : Nat → Hp → Prop) (h0 : Pv 0 (upd H1 D (.lst []))) (hl : ∀ i H, i ≤ xs.length → Pv i H → SqL K H a xs)
    (hs : ∀ i x H, xs[i]? = some x → Pv i H → g x (wipe σ vs) H fun σ2 H2 => wipe σ2 vs = wipe σ vs ∧ tt σ2 H2 fun b H3 =>
      if b = true then te σ2 H3 fun y H4 => ∃ acc, H4 D = some (.lst acc) ∧ acc.length < sizeLine ∧ Pv (i + 1) (upd H4 D (.lst (acc ++ [y]))) else Pv (i + 1) H3) (hd : ∀ H, Pv xs.length H → Qd H) :
    ∃ W : Nat → Nat → Hp → Prop, (∃ m, W 0 m (upd H1 D (.lst []))) ∧ ∀ i m H, W i m H →
      ((Itl K a).stop i H ∧ Qd H) ∨ ((Itl K a).go i H ∧ ∃ Nx : Hp → Prop, (∀ H', Nx H' → ∃ m', m' < m ∧ W (i + 1) m' H') ∧ ∀ x H', (Itl K a).yld i H x H' → g x (wipe σ vs) H' fun σ2 H2 => wipe σ2 vs = wipe σ vs ∧ tt σ2 H2 fun b H3 =>
        if b = true then te σ2 H3 fun y H4 => ∃ acc, H4 D = some (.lst acc) ∧ acc.length < sizeLine ∧ Nx (upd H4 D (.lst (acc ++ [y]))) else Nx H3) := by
  refine ⟨fun i m H => m = xs.length - i ∧ i ≤ xs.length ∧ Pv i H, ⟨xs.length, by simp, Nat.zero_le _, h0⟩, ?_⟩
  rintro i m H ⟨rfl, hi, p⟩
  have q := hl i H hi p
  by_cases hlt : i < xs.length
  · refine .inr ⟨⟨xs, xs[i], q, by simp [hlt]⟩, Pv (i + 1), fun H' p' => ⟨xs.length - (i + 1), by omega, rfl, hlt, p'⟩, fun x H' y => ?_⟩
    obtain ⟨e, y⟩ := y
    subst e
    exact hs i x _ (y xs q) p
  · have e : i = xs.length := by omega
    subst e
    exact .inl ⟨⟨xs, q, Nat.le_refl _⟩, hd H p⟩
def blkC (N : List Str) (sc scope : Scope) (own : List (Str × Nat)) : Bool :=
  (match scope.kind with | .function => true | _ => false) && (scope.names.all fun y => decide (scope.names.lookup y.1 = some y.2)) && (own.all fun p => decide (N[p.2]? = some p.1)) &&
    (scope.names.all fun y => match y.2 with
      | .free => (match sc.names.lookup y.1 with | some .cell => true | some .free => true | _ => false)
      | .local => decide (y.1 ∈ own.map (·.1)) || decide (y.1 ∉ N)
      | .cell => decide (y.1 ∈ own.map (·.1)) || decide (y.1 ∉ N)
      | _ => true)
theorem blkOk_by {N : List Str} {sc scope : Scope} {own : List (Str × Nat)} (h : blkC N sc scope own = true) : BlkOk N sc scope own := by
  unfold blkC at h
  simp only [Bool.and_eq_true, List.all_eq_true, decide_eq_true_eq] at h
  obtain ⟨⟨⟨h1, h2⟩, h3⟩, h4⟩ := h
  refine ⟨?_, h2, h3, fun y hy e => ?_, fun y hy e => ?_⟩
  · split at h1
    · assumption
    · cases h1
  · have q := h4 y hy
    simp only [e] at q
    split at q <;> first | exact .inl (by assumption) | exact .inr (by assumption) | cases q
  · have q := h4 y hy
    rcases e with e | e <;> (simp only [e, Bool.or_eq_true, decide_eq_true_eq] at q; exact q)
end L2

namespace L2
open PySem PySem.Spec PyProof.Rows

section
variable {prog : Program} {w : World} {A : Around} {R : Result → Shared → Prop} {s : Shared} {elt t0 i0 t1 i1 : Expr} {ifs0 ifs1 : List Expr} {scope : Scope} {pos : Pos} {it acc : Value} {env : Env}
end

section
variable {X : Cx}
end
end L2

namespace L2
open PySem PySem.Spec PyProof.Rows

/-! ### lists of pairs as tables -/
section
variable {κ : Type} [DecidableEq κ]
end


/-! ### a tracked dict, its keys ints and texts or tuples of these -/
section
variable {P : Program} {w : World} {H : Hp} {h : Heap} {a : Addr}
end

section
variable {X : Cx} {pins : List (Addr × Obj)} {σ : St} {H : Hp} {s : Shared} {a : Addr} {y v : V} {u r : Value} {o : Option V} {A : Around} {E : Value → Shared → Prop}

end

section
variable {X : Cx} {pins : List (Addr × Obj)} {σ : St} {H : Hp} {s : Shared} {a : Addr} {kvs : List (Key × V)} {k : Key} {u : Value} {A : Around} {E : Value → Shared → Prop}
end


/-! ### readings and rules -/
section
variable {X : Cx} {o i e value : Expr} {pos pos' tpos : Pos} {td ty tv : TE}
end


/-! ### displays -/
section
variable {X : Cx} {pos : Pos}
end

/-! ### methods -/
/-- a method call o.m(e) of a built-in, with one argument: what must be seen of the text -/
structure M1 (X : Cx) (o : Expr) (m : Str) (apos : Pos) (e : Expr) (cpos : Pos) : Prop where
  base : attributeBase o m X.env (eval o X.env) = eval o X.env
  few : ((backTo cpos (starEach [e] X.env)).all (fun x => !x.1) && (backToKw cpos (keywordEach [] X.env)).all (fun x => x.1.isSome)
    && decide (([e] : List Expr).length + ([] : List Keyword).length + (if ([] : List Keyword).isEmpty then 0 else 1) < 30)) = true
  line : (apos.endLine == cpos.line) = true
  trees : backTo cpos (starEach [e] X.env) = [(false, eval e X.env)]
structure M2 (X : Cx) (o : Expr) (m : Str) (apos : Pos) (e f : Expr) (cpos : Pos) : Prop where
  base : attributeBase o m X.env (eval o X.env) = eval o X.env
  few : ((backTo cpos (starEach [e, f] X.env)).all (fun x => !x.1) && (backToKw cpos (keywordEach [] X.env)).all (fun x => x.1.isSome)
    && decide (([e, f] : List Expr).length + ([] : List Keyword).length + (if ([] : List Keyword).isEmpty then 0 else 1) < 30)) = true
  line : (apos.endLine == cpos.line) = true
  trees : backTo cpos (starEach [e, f] X.env) = [(false, eval e X.env), (false, eval f X.env)]

section
variable {X : Cx} {pins : List (Addr × Obj)} {σ : St} {H : Hp} {s : Shared} {a : Addr} {y d : V} {u r : Value} {o : Option V} {A : Around} {E : Value → Shared → Prop}
end

section
variable {X : Cx} {o e f : Expr} {apos cpos : Pos} {td ty tx : TE}
end

/-! ### dict(d): a copy -/
section
variable {X : Cx} {pins : List (Addr × Obj)} {σ : St} {H : Hp} {s : Shared} {a : Addr} {kvs : List (Key × V)} {A : Around} {E : Value → Shared → Prop}
end


section
variable {X : Cx} {pins : List (Addr × Obj)} {σ : St} {H : Hp} {s : Shared} {a : Addr} {y : V} {u : Value} {A : Around} {E : Value → Shared → Prop}
end
end L2

namespace L2
open PySem PySem.Spec PyProof.Rows

section
variable {prog : Program} {w : World} {A : Around} {E : Value → Shared → Prop}
end

section
variable {X : Cx}
end
end L2

namespace L2
open PySem PySem.Spec PyProof.Rows

section
variable {X : Cx} {pins : List (Addr × Obj)} {σ : St} {H : Hp} {s : Shared} {h' : Heap}
/-- several records of ours have turned -/
theorem Inv.turnedL {t' : Nat} {ch : List Addr} (I : Inv X pins σ H s) (k : ∀ b o, b ∉ ch → s.heap.get? b = some o → h'.get? b = some o) (hf : ∀ b ∈ ch, FpOk X pins H b) : Inv X pins σ H { s with heap := h', toks := t' } := by
  have nit : ∀ b u, H b = some u → b ∉ ch := fun b u e z => by
    have q := (hf b z).1
    rw [q] at e; cases e
  refine I.step (g' := s.gens) (d' := s.drawn) (ch := ch) (fun b hb => ⟨(hf b hb).2.2.2.1, (hf b hb).2.1, (hf b hb).2.2.2.2.1, (hf b hb).2.2.2.2.2⟩) (fun b o _ _ hc e _ => k b o hc e) (fun b o _ _ hc e _ => ⟨o.slots, k b o hc e⟩)
    (fun _ _ _ _ n => n) (fun b o hc e => ⟨o, k b o hc e⟩) (fun _ _ e => e) (fun _ _ _ e => e) (fun b ps e => ⟨#[], by rw [e]; simp⟩) (fun m hm => ?_) (fun b u e => ?_) I.bare
  · obtain ⟨o, es, ep, ho, r⟩ := hm
    exact ⟨o, es, ep, k _ o (fun z => (hf _ z).2.1 rfl) ho, r⟩
  · refine (I.hok b u e).stay (fun c v hc q => k c v ?_ q) (fun _ q => q) fun _ _ q => q
    rcases hc with z | z
    · rw [z]; exact nit b u e
    · exact nit c _ z
/-! ### locking a thing while a statement runs -/
end
section
variable {X : Cx}
/-! ### one iterator just laid -/
end

/-! ### range with a step -/
section
variable {X : Cx} {tg : Expr}
end
/-! ### reversed(list) -/
section
variable {X : Cx} {tg : Expr}
end

/-! ### a str -/
/-! ### a dict's keys: any dict's entries -/
section
variable {prog : Program} {w : World} {A : Around} {E : Value → Shared → Prop} {s : Shared}
end

/-! ### a locked dict -/
section
variable {X : Cx} {pins : List (Addr × Obj)} {σ : St} {H : Hp} {s : Shared} {d : Addr} {o : Obj}
end

section
variable {P : Program} {w : World} {K : PySem.W.Frag} {tg : Expr} {d : Addr} {o : Obj} {es : Array DictEntry} {ep : Nat}
end

/-! ### for k in d, d.keys(), d.values(), d.items() -/
section
variable {X : Cx} {tg e : Expr} {td : TE} {apos cpos : Pos}
end

/-! ### enumerate(list) -/
/-! ### zip(list, list) -/
end L2

section 
namespace Bits
open PySem PyProof.Rows

end Bits
end 

section 
namespace TL
open PySem PySem.Builtin PySem.Builtin.Str PySem.StrLaws

/-! ### the list functions -/
/-- S stands at the head of l -/
def pre (S l : List Nat) : Bool := l.take S.length == S
/-- what stands before the first S, and behind it -/
def par (S : List Nat) : List Nat → List Nat → Option (List Nat × List Nat)
  | _, [] => none
  | acc, c :: r => if pre S (c :: r) = true then some (acc, (c :: r).drop S.length) else par S (acc ++ [c]) r

/-! ### the model's split and partition are these -/
/-! ### computing spl and par -/
/-! ### digits -/
/-! ### words: x.split() -/
end TL
end 

namespace L2
open PySem PySem.Spec PyProof.Rows

section
variable {X : Cx} {pins : List (Addr × Obj)} {σ : St} {H : Hp} {s : Shared} {Q : VK}
end

section
variable {X : Cx}

/-! ### of a text alone -/
/-! ### of a text and a text -/
end

section
variable {X : Cx} {o e : Expr} {to te : TE}
end
end L2

namespace L2
open PySem PySem.Spec PyProof.Rows

section
variable {X : Cx}
end

/-! ### slices of a text -/
end L2

namespace Att
open PySem PySem.W PySem.Calls PyProof.Rows

/-! ### the script -/
/-! ### the attachment: holds_open's last premise (the goal 'hc' behind k_head) from a wpAny of the law's body -/
/-! ### rules over ANY heap (no ledger) from facts about the written part K: the library's own take a ledger (News) for what they write -/
section
variable {prog : Program} {w : World} {A : Around} {E : Value → Shared → Prop} {s : Shared} {K : Frag}

/-! the whole heap as the ledger: makes every rule that writes through a ledger a rule over any heap -/
end
end Att

namespace L2
open PySem PySem.Spec PyProof.Rows

end L2

namespace L2
open PySem PySem.Spec PyProof.Rows

end L2

/- THE LAST THEOREM (shape; LID, My.* are yours):
   My.Adr: a structure of the addresses that your layer names (classes, functions); My.Txt K t: a structure (Prop) of the equations over K;
   My.txt_mk : {K} {implicit addresses ..} (e1 : nsIn K mainGlobals "law" = some (some (.ref f))) (e2 : K.lookup f = some ⟨oc, od, .func (fnOf "law" "law" params body scope dV kV doc pm an cdv ct), sl⟩) (e3 : codeIn K cdv "law" = true) .. : ∃ t, My.Txt K t

set_option maxRecDepth 100000 in
set_option maxHeartbeats 0 in
(the tactic k_is has no namespace: write k_is) -/

/-! SHORT WORDS over the layer: a def of the text, its body, what a loop and a test want. -/
namespace L2
open PySem PySem.Spec PyProof.Rows

/-! ### the text by places -/
/-- the j-th statement of a class's body -/
def inClass (s : Stmt) (j : Nat) : Stmt := match s with
  | .ClassDef _ _ _ body _ _ _ _ _ _ _ => body.getD j (.Pass ⟨0, 0, 0, 0⟩)
  | _ => .Pass ⟨0, 0, 0, 0⟩
def defArgs (s : Stmt) : Arguments := match s with
  | .FunctionDef _ a _ _ _ _ _ _ _ _ => a
  | _ => { posonlyargs := [], args := [], vararg := none, kwonlyargs := [], kw_defaults := [], kwarg := none, defaults := [] }
def defBody (s : Stmt) : List Stmt := match s with
  | .FunctionDef _ _ b _ _ _ _ _ _ _ => b
  | _ => []
def defScope (s : Stmt) : Scope := match s with
  | .FunctionDef _ _ _ _ _ _ sc _ _ _ => sc
  | _ => { kind := .function, names := [], isGenerator := false, isCoroutine := false }

/-! ### no exception leaves a def -/
abbrev CX0 : CXT := fun _ _ _ _ _ _ => False
abbrev E0 : XK := fun _ _ _ => False
theorem pass0 {X : Cx} : Passes CX0 X E0 := fun _ _ _ _ _ _ _ h => h.elim

/-! ### a def (or method) of the text as it stands behind the top -/
structure Fun (K : PySem.W.Frag) (x qual : Str) (st : Stmt) (f : Addr) (fd : FuncData) : Prop where
  ex : ∃ (oc : Value) (od : Option Addr) (kV doc pm : Value) (an : Option Addr) (cdv ct : Value) (osl : Array (Option Value)),
    fd = PySem.W.fnOf x qual (defArgs st) (defBody st) (defScope st) .none kV doc pm an cdv ct ∧ K.lookup f = some ⟨oc, od, .func fd, osl⟩ ∧ PySem.W.codeIn K cdv qual = true
  kp : PySem.W.keepIn K (.ref f) = true
section
variable {P : Program} {w : World} {K : PySem.W.Frag} {mg : Str → Option Value} {base : Heap}
/-- THE RULE for a def: its body as a term of rules, and the reading of that term -/
theorem Fun.ok {x qual : Str} {st : Stmt} {f : Addr} {fd : FuncData} {N ps : List Str} {k : Nat} {sp : Sp} (F : Fun K x qual st f fd) (S : FnScope N ps (defScope st)) (len : ∀ vs H Q E, sp vs H Q E → vs.length = ps.length)
    (hbody : ∀ (cdv : Value) (A : Around) (outer : List Env) (s : Shared) (H : Hp) (vs : List V) (Q : VK) (E : XK), Room k (A.deeper (envOfC qual (defScope st) s.heap.objs.size f cdv)) → sp vs H Q E →
      ∃ t, PSs (cxOf CX0 P w K mg base N qual (defScope st) f cdv A outer s H E).nox (defBody st) t ∧ t { nx := fun _ H' => Q .non H', rt := Q } (start N vs) H) : FnOk P w K mg base CX0 (k + 1) f fd ps sp := by
  obtain ⟨oc, od, kV, doc, pm, an, cdv, ct, osl, rfl, lk, hcd⟩ := F.ex
  refine fn_of lk hcd S len fun A outer s H vs Q E hr hsp => ?_
  obtain ⟨t, h, q⟩ := hbody cdv A outer s H vs Q E hr hsp
  exact ⟨t, h.nox, q⟩
/-- how its arguments bind (no defaults): h is «fun _ _ _ _ _ _ us hl => match us, hl with | [_, _], _ => rfl», one _ a parameter -/
theorem Fun.binds {x qual : Str} {st : Stmt} {f : Addr} {fd : FuncData} {ps : List Str} (F : Fun K x qual st f fd)
    (h : ∀ (kV doc pm : Value) (an : Option Addr) (cdv ct : Value) (us : List Value), us.length = ps.length → bindArgs (PySem.W.fnOf x qual (defArgs st) (defBody st) (defScope st) .none kV doc pm an cdv ct) ⟨us, []⟩ = pure (ps.zip us)) : Binds K fd ps [] := by
  obtain ⟨oc, od, kV, doc, pm, an, cdv, ct, osl, rfl, lk, hcd⟩ := F.ex
  exact .all (h kV doc pm an cdv ct)
theorem fun_mk {x qual : Str} {st : Stmt} {f : Addr} {oc : Value} {od an : Option Addr} {osl : Array (Option Value)} {kV doc pm cdv ct : Value} (l : K.lookup f = some ⟨oc, od, .func (PySem.W.fnOf x qual (defArgs st) (defBody st) (defScope st) .none kV doc pm an cdv ct), osl⟩)
    (c : PySem.W.codeIn K cdv qual = true) (k : PySem.W.keepIn K (.ref f) = true) : Fun K x qual st f (PySem.W.fnOf x qual (defArgs st) (defBody st) (defScope st) .none kV doc pm an cdv ct) := ⟨⟨oc, od, kV, doc, pm, an, cdv, ct, osl, rfl, l, c⟩, k⟩
end
/-! ### expressions in short: the name that stands in the i-th slot -/
section
variable {X : Cx}
end

/-! ### tests -/
/-! ### heaps -/
/-- all that was tracked is as it was -/
def Same (H H' : Hp) : Prop := ∀ b o, H b = some o → H' b = some o
theorem Same.refl (H : Hp) : Same H H := fun _ _ h => h
theorem Same.trans {H H1 H2 : Hp} (a : Same H H1) (b : Same H1 H2) : Same H H2 := fun c o h => b c o (a c o h)
theorem Same.seq {K : PySem.W.Frag} {H H' : Hp} {a : Addr} {xs : List V} (e : Same H H') (h : SqL K H a xs) : SqL K H' a xs := by
  rcases h with (h | ⟨o, h⟩) | h
  · exact .inl (.inl (e _ _ h))
  · exact .inl (.inr ⟨o, e _ _ h⟩)
  · exact .inr h

/-! ### a dict's pairs: keys that differ -/
section
variable {κ : Type} [DecidableEq κ]
end
/-! ### lists -/
end L2


set_option Elab.async false
set_option linter.all false
set_option maxRecDepth 100000
namespace DD
open PySem PySem.Spec PyProof.Rows L2

/-! ## Plain data over the hand layer: what a def reads and gives back, with no address in it -/
inductive D where
  | non
  | bl (b : Bool)
  | int (i : Int)
  | str (x : Str)
  | lst (xs : List D)
  | tup (xs : List D)
  | obj (c : Str) (fs : List (Str × D))

abbrev Frag := PySem.W.Frag
abbrev ClM := Str → Addr

mutual
/-- the value v stands for the datum d -/
inductive Rep (K : Frag) (cl : ClM) (H : Hp) : V → D → Prop
  | non : Rep K cl H .non .non
  | bl (b : Bool) : Rep K cl H (.bl b) (.bl b)
  | int (i : Int) : Rep K cl H (.int i) (.int i)
  | str (x : Str) : Rep K cl H (.str x) (.str x)
  | lst {a : Addr} {vs : List V} {ds : List D} : SqL K H a vs → RepL K cl H vs ds → Rep K cl H (.ref a) (.lst ds)
  | tup {a : Addr} {vs : List V} {ds : List D} : SqT K H a vs → RepL K cl H vs ds → Rep K cl H (.ref a) (.tup ds)
  | obj {a dx : Addr} {c : Str} {fs : List (Str × V)} {gs : List (Str × D)} : H a = some (.ins (cl c) dx fs) → RepF K cl H fs gs → Rep K cl H (.ref a) (.obj c gs)
inductive RepL (K : Frag) (cl : ClM) (H : Hp) : List V → List D → Prop
  | nil : RepL K cl H [] []
  | cons {v : V} {d : D} {vs : List V} {ds : List D} : Rep K cl H v d → RepL K cl H vs ds → RepL K cl H (v :: vs) (d :: ds)
inductive RepF (K : Frag) (cl : ClM) (H : Hp) : List (Str × V) → List (Str × D) → Prop
  | nil : RepF K cl H [] []
  | cons {f : Str} {v : V} {d : D} {vs : List (Str × V)} {ds : List (Str × D)} : Rep K cl H v d → RepF K cl H vs ds → RepF K cl H ((f, v) :: vs) ((f, d) :: ds)
end

theorem sqT_same {K : Frag} {H H' : Hp} {a : Addr} {xs : List V} (e : Same H H') (h : SqT K H a xs) : SqT K H' a xs := by
  rcases h with (h | ⟨o, h⟩) | h
  · exact .inl (.inl (e _ _ h))
  · exact .inl (.inr ⟨o, e _ _ h⟩)
  · exact .inr h
section
variable {K : Frag} {cl : ClM} {H H' : Hp}
mutual
theorem Rep.mono (e : Same H H') : ∀ {v : V} {d : D}, Rep K cl H v d → Rep K cl H' v d
  | _, _, .non => .non
  | _, _, .bl b => .bl b
  | _, _, .int i => .int i
  | _, _, .str x => .str x
  | _, _, .lst q r => .lst (e.seq q) (RepL.mono e r)
  | _, _, .tup q r => .tup (sqT_same e q) (RepL.mono e r)
  | _, _, .obj q r => .obj (e _ _ q) (RepF.mono e r)
theorem RepL.mono (e : Same H H') : ∀ {vs : List V} {ds : List D}, RepL K cl H vs ds → RepL K cl H' vs ds
  | _, _, .nil => .nil
  | _, _, .cons a b => .cons (Rep.mono e a) (RepL.mono e b)
theorem RepF.mono (e : Same H H') : ∀ {vs : List (Str × V)} {ds : List (Str × D)}, RepF K cl H vs ds → RepF K cl H' vs ds
  | _, _, .nil => .nil
  | _, _, .cons a b => .cons (Rep.mono e a) (RepF.mono e b)
end
theorem RepL.length : ∀ {vs : List V} {ds : List D}, RepL K cl H vs ds → vs.length = ds.length
  | _, _, .nil => rfl
  | _, _, .cons _ b => by simp only [List.length_cons]; rw [RepL.length b]
theorem RepL.get : ∀ {vs : List V} {ds : List D} {i : Nat} {d : D}, RepL K cl H vs ds → ds[i]? = some d → ∃ v, vs[i]? = some v ∧ Rep K cl H v d
  | _, _, _, _, .nil, h => by simp at h
  | _, _, 0, _, .cons a b, h => by
    simp at h; subst h; exact ⟨_, rfl, a⟩
  | _, _, i + 1, _, .cons a b, h => by
    obtain ⟨v, h1, h2⟩ := RepL.get (i := i) b (by simpa using h)
    exact ⟨v, by simpa using h1, h2⟩
theorem RepL.append : ∀ {vs ws : List V} {ds es : List D}, RepL K cl H vs ds → RepL K cl H ws es → RepL K cl H (vs ++ ws) (ds ++ es)
  | _, _, _, _, .nil, b => b
  | _, _, _, _, .cons a r, b => .cons a (RepL.append r b)
theorem RepL.drop : ∀ {vs : List V} {ds : List D} (n : Nat), RepL K cl H vs ds → RepL K cl H (vs.drop n) (ds.drop n)
  | _, _, 0, r => by simpa using r
  | _, _, _ + 1, .nil => by simpa using RepL.nil
  | _, _, n + 1, .cons _ r => by simpa using RepL.drop n r
theorem RepL.take : ∀ {vs : List V} {ds : List D} (n : Nat), RepL K cl H vs ds → RepL K cl H (vs.take n) (ds.take n)
  | _, _, 0, _ => by simpa using RepL.nil
  | _, _, _ + 1, .nil => by simpa using RepL.nil
  | _, _, n + 1, .cons a r => by simpa using RepL.cons a (RepL.take n r)
theorem RepF.get : ∀ {vs : List (Str × V)} {ds : List (Str × D)} {f : Str} {d : D}, RepF K cl H vs ds → ds.lookup f = some d → ∃ v, vs.lookup f = some v ∧ Rep K cl H v d
  | _, _, _, _, .nil, h => by simp at h
  | _, _, f, d, .cons (f := g) a b, h => by
    by_cases e : (f == g) = true
    · rw [List.lookup_cons, e] at h
      simp at h
      exact ⟨_, by rw [List.lookup_cons, e], h ▸ a⟩
    · have e' : (f == g) = false := by simpa using e
      rw [List.lookup_cons, e'] at h
      obtain ⟨v, h1, h2⟩ := RepF.get b h
      exact ⟨v, by rw [List.lookup_cons, e']; exact h1, h2⟩
end

/-! ### the names' values -/
abbrev En := List (Option D)
def RepE (K : Frag) (cl : ClM) (H : Hp) (σ : L2.St) (ρ : En) : Prop := σ.length = ρ.length ∧ ∀ (i : Nat) (d : D), ρ[i]? = some (some d) → ∃ v, σ[i]? = some (some v) ∧ Rep K cl H v d
theorem RepE.mono {K : Frag} {cl : ClM} {H H' : Hp} {σ : L2.St} {ρ : En} (e : Same H H') (r : RepE K cl H σ ρ) : RepE K cl H' σ ρ :=
  ⟨r.1, fun i d h => let ⟨v, h1, h2⟩ := r.2 i d h; ⟨v, h1, h2.mono e⟩⟩
theorem RepE.set {K : Frag} {cl : ClM} {H : Hp} {σ : L2.St} {ρ : En} (r : RepE K cl H σ ρ) (i : Nat) {v : V} {d : D} (h : Rep K cl H v d) : RepE K cl H (σ.set i (some v)) (ρ.set i (some d)) := by
  refine ⟨by rw [List.length_set, List.length_set]; exact r.1, fun j e h2 => ?_⟩
  by_cases hj : i = j
  · subst hj
    by_cases hl : i < ρ.length
    · rw [List.getElem?_set_self hl] at h2
      cases h2
      exact ⟨v, List.getElem?_set_self (by rw [r.1]; exact hl), h⟩
    · rw [List.getElem?_eq_none (by rw [List.length_set]; omega)] at h2
      cases h2
  · rw [List.getElem?_set_ne hj] at h2 ⊢
    exact r.2 j e h2

/-! ### the judgements -/
abbrev DT := En → (D → Prop) → Prop
abbrev DB := En → (Bool → Prop) → Prop
abbrev DA := En → (List D → Prop) → Prop
abbrev DS := (En → Prop) → (D → Prop) → En → Prop
/-- what is wanted of a value by P is wanted of it by Q -/
def Fit (K : Frag) (cl : ClM) (H : Hp) (P : D → Prop) (Q : VK) : Prop := ∀ d v H', P d → Same H H' → Rep K cl H' v d → Q v H'
theorem Fit.from {K : Frag} {cl : ClM} {H H' : Hp} {P : D → Prop} {Q : VK} (f : Fit K cl H P Q) (e : Same H H') : Fit K cl H' P Q := fun d v H2 p s r => f d v H2 p (e.trans s) r
def PD (X : Cx) (cl : ClM) (e : Expr) (T : DT) : Prop := ∃ t, PE X e t ∧ ∀ ρ P σ H Q, T ρ P → RepE X.K cl H σ ρ → Fit X.K cl H P Q → t σ H Q
def PDT (X : Cx) (cl : ClM) (e : Expr) (T : DB) : Prop := ∃ t, PT X e t ∧ ∀ ρ P σ H Q, T ρ P → RepE X.K cl H σ ρ → (∀ b H', P b → Same H H' → Q b H') → t σ H Q
/-- and, or: whatever the whole -/
def PDW (X : Cx) (cl : ClM) (e : Expr) (T : DB) : Prop := ∃ t, PW X e t ∧ ∀ ρ P σ H Q, T ρ P → RepE X.K cl H σ ρ → (∀ b H', P b → Same H H' → Q b H') → t σ H Q
def PDA (X : Cx) (cl : ClM) (es : List Expr) (T : DA) : Prop := ∃ t, PA X es t ∧ ∀ ρ P σ H Q, T ρ P → RepE X.K cl H σ ρ → (∀ ds vs H', P ds → Same H H' → RepL X.K cl H' vs ds → Q vs H') → t σ H Q
def EFit (K : Frag) (cl : ClM) (H : Hp) (N : En → Prop) (R : D → Prop) (E : Ends) : Prop := (∀ ρ σ H', N ρ → Same H H' → RepE K cl H' σ ρ → E.nx σ H') ∧ Fit K cl H R E.rt
theorem EFit.from {K : Frag} {cl : ClM} {H H' : Hp} {N : En → Prop} {R : D → Prop} {E : Ends} (f : EFit K cl H N R E) (e : Same H H') : EFit K cl H' N R E := ⟨fun ρ σ H2 p s r => f.1 ρ σ H2 p (e.trans s) r, f.2.from e⟩
def PDS (X : Cx) (cl : ClM) (st : Stmt) (T : DS) : Prop := ∃ t, PS X st t ∧ ∀ ρ N R σ H E, T N R ρ → RepE X.K cl H σ ρ → EFit X.K cl H N R E → t E σ H
def PDSs (X : Cx) (cl : ClM) (sts : List Stmt) (T : DS) : Prop := ∃ t, PSs X sts t ∧ ∀ ρ N R σ H E, T N R ρ → RepE X.K cl H σ ρ → EFit X.K cl H N R E → t E σ H

section
variable {X : Cx} {cl : ClM} {pos : Pos}
/-! ### names, constants -/
def dVar (i : Nat) : DT := fun ρ P => match ρ[i]? with
  | some (some d) => P d
  | _ => False
theorem pd_var (i : Nat) {x : Str} {pos : Pos} (hN : X.N[i]? = some x := by rfl) (hv : Vis X.env.scope x := by first | exact Or.inl rfl | exact Or.inr (Or.inl rfl) | exact Or.inr (Or.inr rfl)) (hd : (x == ("__debug__" : Str)) = false := by decide)
    (hcd : (x == ("__classdict__" : Str)) = false := by decide) : PD X cl (.Name x pos) (dVar i) := by
  refine ⟨tVar i, pe_var hN hv hd hcd, fun ρ P σ H Q h r f => ?_⟩
  unfold dVar at h
  split at h
  · rename_i d e
    obtain ⟨v, h1, h2⟩ := r.2 i d e
    exact ⟨v, h1, f d v H h (Same.refl H) h2⟩
  · exact h.elim
def dC (d : D) : DT := fun _ P => P d
theorem pd_int {i j} : PD X cl (.Constant (.int i) j pos) (dC (.int i)) := ⟨_, pe_int, fun _ _ _ H _ h _ f => f _ _ H h (Same.refl H) (.int i)⟩
theorem pd_bl {b j} : PD X cl (.Constant (.bool b) j pos) (dC (.bl b)) := ⟨_, pe_bl, fun _ _ _ H _ h _ f => f _ _ H h (Same.refl H) (.bl b)⟩
theorem pd_non {j} : PD X cl (.Constant .none j pos) (dC .non) := ⟨_, pe_non, fun _ _ _ H _ h _ f => f _ _ H h (Same.refl H) .non⟩
/-! ### operators -/
abbrev DO := D → D → (D → Prop) → Prop
def OpD (X : Cx) (cl : ClM) (f : Value → Value → Sem Value) (o : DO) : Prop := ∃ r : R2, OpR X f r ∧ ∀ x y d e H P Q, Rep X.K cl H x d → Rep X.K cl H y e → o d e P → Fit X.K cl H P Q → r x y H Q
def dOp (o : DO) (Ta Tb : DT) : DT := fun ρ P => Ta ρ fun x => Tb ρ fun y => o x y P
theorem op_fit {o : DO} {r : R2} {a b : Expr} {ta tb : TE} {Ta Tb : DT} (hr : ∀ x y d e H P Q, Rep X.K cl H x d → Rep X.K cl H y e → o d e P → Fit X.K cl H P Q → r x y H Q)
    (fa : ∀ ρ P σ H Q, Ta ρ P → RepE X.K cl H σ ρ → Fit X.K cl H P Q → ta σ H Q) (fb : ∀ ρ P σ H Q, Tb ρ P → RepE X.K cl H σ ρ → Fit X.K cl H P Q → tb σ H Q) :
    ∀ ρ P σ H Q, dOp o Ta Tb ρ P → RepE X.K cl H σ ρ → Fit X.K cl H P Q → tOp r ta tb σ H Q := fun ρ P σ H Q h rE f =>
  fa ρ _ σ H _ h rE fun d v H1 hb s1 rv => fb ρ _ σ H1 _ hb (rE.mono s1) fun e u H2 ho s2 ru => hr v u d e H2 P Q (rv.mono s2) ru ho (f.from (s1.trans s2))
theorem pd_bin {op : Operator} {o : DO} {a b : Expr} {Ta Tb : DT} (ho : OpD X cl (binaryOp op) o) (ha : PD X cl a Ta) (hb : PD X cl b Tb) : PD X cl (.BinOp a op b pos) (dOp o Ta Tb) := by
  obtain ⟨r, h1, h2⟩ := ho
  obtain ⟨ta, a1, a2⟩ := ha
  obtain ⟨tb, b1, b2⟩ := hb
  exact ⟨_, pe_op h1 a1 b1, op_fit (a := a) (b := b) h2 a2 b2⟩
theorem pd_cmp {op : CmpOp} {o : DO} {a b : Expr} {Ta Tb : DT} (ho : OpD X cl (compareOp op) o) (ha : PD X cl a Ta) (hb : PD X cl b Tb) (hm : behindInMarks op b = false := by first | exact nomark _ | with_unfolding_all rfl) : PD X cl (.Compare a [op] [b] pos) (dOp o Ta Tb) := by
  obtain ⟨r, h1, h2⟩ := ho
  obtain ⟨ta, a1, a2⟩ := ha
  obtain ⟨tb, b1, b2⟩ := hb
  exact ⟨_, pe_cmpR h1 a1 b1 hm, op_fit (a := a) (b := b) h2 a2 b2⟩
/-- a bool as a test -/
def dTest (T : DT) : DB := fun ρ P => T ρ fun d => match d with
  | .bl b => P b
  | _ => False
theorem pdt_cmp {op : CmpOp} {o : DO} {a b : Expr} {Ta Tb : DT} (ho : OpD X cl (compareOp op) o) (ha : PD X cl a Ta) (hb : PD X cl b Tb) (hm : behindInMarks op b = false := by first | exact nomark _ | with_unfolding_all rfl) : PDT X cl (.Compare a [op] [b] pos) (dTest (dOp o Ta Tb)) := by
  obtain ⟨r, h1, h2⟩ := ho
  obtain ⟨ta, a1, a2⟩ := ha
  obtain ⟨tb, b1, b2⟩ := hb
  refine ⟨_, pt_cmpR h1 a1 b1 hm, fun ρ P σ H Q h rE f => ?_⟩
  refine op_fit (X := X) (a := a) (b := b) h2 a2 b2 ρ _ σ H _ h rE fun d v H' hp s rv => ?_
  cases rv with
  | bl b => exact ⟨b, rfl, f b H' hp s⟩
  | non => exact hp.elim
  | int i => exact hp.elim
  | str i => exact hp.elim
  | lst _ _ => exact hp.elim
  | tup _ _ => exact hp.elim
  | obj _ _ => exact hp.elim

/-- ints -/
def oI (C : Int → Int → Prop) (g : Int → Int → D) : DO := fun x y P => match x, y with
  | .int i, .int j => C i j ∧ P (g i j)
  | _, _ => False
def oI0 (g : Int → Int → D) : DO := fun x y P => match x, y with
  | .int i, .int j => P (g i j)
  | _, _ => False
theorem opd_I0 {f : Value → Value → Sem Value} {g : Int → Int → Int} (h : OpR X f (rI0 fun i j => .int (g i j))) : OpD X cl f (oI0 fun i j => .int (g i j)) := by
  refine ⟨_, h, fun x y d e H P Q r1 r2 ho ft => ?_⟩
  cases r1 with
  | int i =>
    cases r2 with
    | int j => exact ⟨i, j, rfl, rfl, ft _ _ H ho (Same.refl H) (.int _)⟩
    | _ => exact ho.elim
  | _ => exact ho.elim
theorem opd_I {f : Value → Value → Sem Value} {C : Int → Int → Prop} {g : Int → Int → Int} (h : OpR X f (rI C fun i j => .int (g i j))) : OpD X cl f (oI C fun i j => .int (g i j)) := by
  refine ⟨_, h, fun x y d e H P Q r1 r2 ho ft => ?_⟩
  cases r1 with
  | int i =>
    cases r2 with
    | int j => exact ⟨i, j, rfl, rfl, ho.1, ft _ _ H ho.2 (Same.refl H) (.int _)⟩
    | _ => exact ho.elim
  | _ => exact ho.elim
theorem opd_B0 {f : Value → Value → Sem Value} {g : Int → Int → Bool} (h : OpR X f (rI0 fun i j => .bl (g i j))) : OpD X cl f (oI0 fun i j => .bl (g i j)) := by
  refine ⟨_, h, fun x y d e H P Q r1 r2 ho ft => ?_⟩
  cases r1 with
  | int i =>
    cases r2 with
    | int j => exact ⟨i, j, rfl, rfl, ft _ _ H ho (Same.refl H) (.bl _)⟩
    | _ => exact ho.elim
  | _ => exact ho.elim
/-- bounds -/
def CShl (i j : Int) : Prop := 0 ≤ j ∧ (Builtin.Int.intBits i : Int) + j ≤ 2 ^ 27
def CMulB (i j : Int) : Prop := IntMulOk i j
def CDivB (i j : Int) : Prop := 0 < j ∧ Builtin.divisionGoesByPylong i j = false
theorem opr_shl : OpR X (binaryOp .LShift) (rI CShl fun i j => .int (i * 2 ^ j.toNat)) := opI fun _ _ _ _ _ _ _ hc q => lshift_int hc.1 hc.2 q
theorem opr_mul : OpR X (binaryOp .Mult) (rI CMulB fun i j => .int (i * j)) := opI fun _ _ _ _ _ _ _ hc q => mul_int q hc
theorem opr_fdiv : OpR X (binaryOp .FloorDiv) (rI CDivB fun i j => .int (i / j)) := opI fun i j _ _ _ _ _ hc q => by
  refine floordiv_int (by have := hc.1; omega) ?_ (.inl hc.2)
  rw [Int.fdiv_eq_ediv_of_nonneg i (by have := hc.1; omega)]
  exact q
theorem od_sub : OpD X cl (binaryOp .Sub) (oI0 fun i j => .int (i - j)) := opd_I0 op_sub
theorem od_mul : OpD X cl (binaryOp .Mult) (oI CMulB fun i j => .int (i * j)) := opd_I opr_mul
theorem od_fdiv : OpD X cl (binaryOp .FloorDiv) (oI CDivB fun i j => .int (i / j)) := opd_I opr_fdiv
theorem od_mod : OpD X cl (binaryOp .Mod) (oI (fun _ j => 0 < j) fun i j => .int (i % j)) := opd_I op_mod
theorem od_shl : OpD X cl (binaryOp .LShift) (oI CShl fun i j => .int (i * 2 ^ j.toNat)) := opd_I opr_shl
theorem od_shr : OpD X cl (binaryOp .RShift) (oI (fun _ j => 0 ≤ j) fun i j => .int (i / 2 ^ j.toNat)) := opd_I op_shr
theorem od_and : OpD X cl (binaryOp .BitAnd) (oI0 fun i j => .int (Builtin.bitAnd i j)) := opd_I0 op_and
theorem od_or : OpD X cl (binaryOp .BitOr) (oI0 fun i j => .int (Builtin.bitOr i j)) := opd_I0 op_or
theorem od_xor : OpD X cl (binaryOp .BitXor) (oI0 fun i j => .int (Builtin.bitXor i j)) := opd_I0 op_xor
theorem od_lt : OpD X cl (compareOp .Lt) (oI0 fun i j => .bl (decide (i < j))) := opd_B0 op_lt
theorem od_le : OpD X cl (compareOp .LtE) (oI0 fun i j => .bl (decide (i ≤ j))) := opd_B0 op_le
theorem od_gt : OpD X cl (compareOp .Gt) (oI0 fun i j => .bl (decide (j < i))) := opd_B0 op_gt
theorem od_ge : OpD X cl (compareOp .GtE) (oI0 fun i j => .bl (decide (j ≤ i))) := opd_B0 op_ge
/-- ==, != of ints, of texts, of bools -/
def oEq : DO := fun x y P => match x, y with
  | .int i, .int j => P (.bl (decide (i = j)))
  | .str i, .str j => P (.bl (decide (i = j)))
  | .bl i, .bl j => P (.bl (decide (i = j)))
  | _, _ => False
def oNe : DO := fun x y P => match x, y with
  | .int i, .int j => P (.bl (!decide (i = j)))
  | .str i, .str j => P (.bl (!decide (i = j)))
  | .bl i, .bl j => P (.bl (!decide (i = j)))
  | _, _ => False
theorem dV_int {i j : Int} : decide (V.int i = V.int j) = decide (i = j) := by simp
theorem dV_str {i j : Str} : decide (V.str i = V.str j) = decide (i = j) := by simp
theorem dV_bl {i j : Bool} : decide (V.bl i = V.bl j) = decide (i = j) := by simp
theorem od_eq : OpD X cl (compareOp .Eq) oEq := by
  refine ⟨_, op_eq, fun x y d e H P Q r1 r2 ho ft => ?_⟩
  cases r1 with
  | int i =>
    cases r2 with
    | int j => exact ⟨rfl, ft _ _ H ho (Same.refl H) (by rw [dV_int]; exact .bl _)⟩
    | _ => exact ho.elim
  | str i =>
    cases r2 with
    | str j => exact ⟨rfl, ft _ _ H ho (Same.refl H) (by rw [dV_str]; exact .bl _)⟩
    | _ => exact ho.elim
  | bl i =>
    cases r2 with
    | bl j => exact ⟨rfl, ft _ _ H ho (Same.refl H) (by rw [dV_bl]; exact .bl _)⟩
    | _ => exact ho.elim
  | _ => exact ho.elim
theorem od_ne : OpD X cl (compareOp .NotEq) oNe := by
  refine ⟨_, op_ne, fun x y d e H P Q r1 r2 ho ft => ?_⟩
  cases r1 with
  | int i =>
    cases r2 with
    | int j => exact ⟨rfl, ft _ _ H ho (Same.refl H) (by rw [dV_int]; exact .bl _)⟩
    | _ => exact ho.elim
  | str i =>
    cases r2 with
    | str j => exact ⟨rfl, ft _ _ H ho (Same.refl H) (by rw [dV_str]; exact .bl _)⟩
    | _ => exact ho.elim
  | bl i =>
    cases r2 with
    | bl j => exact ⟨rfl, ft _ _ H ho (Same.refl H) (by rw [dV_bl]; exact .bl _)⟩
    | _ => exact ho.elim
  | _ => exact ho.elim
/-- is None -/
def oIsN : DO := fun x y P => match y with
  | .non => P (.bl (match x with | .non => true | _ => false))
  | _ => False
theorem od_isN : OpD X cl (compareOp .Is) oIsN := by
  refine ⟨_, op_isN, fun x y d e H P Q r1 r2 ho ft => ?_⟩
  cases r2 with
  | non =>
    refine ⟨rfl, ft _ _ H ho (Same.refl H) ?_⟩
    cases r1 <;> simp <;> exact .bl _
  | _ => exact ho.elim
end
end DD

set_option Elab.async false
set_option linter.all false
set_option maxRecDepth 100000
namespace DD
open PySem PySem.Spec PyProof.Rows L2
section
variable {X : Cx} {cl : ClM} {pos : Pos} {a b c : Expr}
/-! ### one operand -/
def dNeg (T : DT) : DT := fun ρ P => T ρ fun d => match d with
  | .int i => P (.int (-i))
  | _ => False
theorem pd_neg {Ta : DT} (ha : PD X cl a Ta) : PD X cl (.UnaryOp .USub a pos) (dNeg Ta) := by
  obtain ⟨ta, a1, a2⟩ := ha
  refine ⟨_, pe_un un_neg a1, fun ρ P σ H Q h rE f => a2 ρ _ σ H _ h rE fun d v H' hp s rv => ?_⟩
  cases rv with
  | int i => exact ⟨i, rfl, f _ _ H' hp s (.int _)⟩
  | _ => exact hp.elim
/-! ### truth -/
def dTru (d : D) (P : Bool → Prop) : Prop := match d with
  | .non => P false
  | .bl b => P b
  | .int i => P (i != 0)
  | .lst xs => P (!xs.isEmpty)
  | .tup xs => P (!xs.isEmpty)
  | _ => False
def dTruth (T : DT) : DB := fun ρ P => T ρ fun d => dTru d P
theorem RepL.isEmpty {K : Frag} {H : Hp} {vs : List V} {ds : List D} (r : RepL K cl H vs ds) : vs.isEmpty = ds.isEmpty := by cases r <;> rfl
theorem tru_of {K : Frag} {H : Hp} {v : V} {d : D} (r : Rep K cl H v d) {P : Bool → Prop} (h : dTru d P) : ∃ k, TruV K v H k ∧ P k := by
  cases r with
  | non => exact ⟨false, rfl, h⟩
  | bl b => exact ⟨b, rfl, h⟩
  | int i => exact ⟨_, rfl, h⟩
  | str x => exact h.elim
  | lst q r => exact ⟨_, .inl ⟨_, q, rfl⟩, by rw [r.isEmpty]; exact h⟩
  | tup q r => exact ⟨_, .inr (.inl ⟨_, q, rfl⟩), by rw [r.isEmpty]; exact h⟩
  | obj q r => exact h.elim
theorem pdt_truth {Ta : DT} (ha : PD X cl a Ta) (he : ∀ whole, isTrue a X.env whole = (do let v ← whole; standAt a.pos; holding [v] (truthy v)) := by intro _; rfl) : PDT X cl a (dTruth Ta) := by
  obtain ⟨ta, a1, a2⟩ := ha
  refine ⟨_, pt_truth a1 he, fun ρ P σ H Q h rE f => a2 ρ _ σ H _ h rE fun d v H' hp s rv => ?_⟩
  obtain ⟨k, h1, h2⟩ := tru_of rv hp
  exact ⟨k, h1, f k H' h2 s⟩
/-! ### and, or, not -/
def dAnd (T U : DB) : DB := fun ρ P => T ρ fun c => if c = true then U ρ P else P false
def dOr (T U : DB) : DB := fun ρ P => T ρ fun c => if c = true then P true else U ρ P
def dNot (T : DB) : DB := fun ρ P => T ρ fun c => P (!c)
theorem pdw_and1 {T : DB} (h : PDT X cl a T) : PDW X cl (.BoolOp .And [a] pos) T := let ⟨t, h1, h2⟩ := h; ⟨t, pw_and1 h1, h2⟩
theorem pdw_or1 {T : DB} (h : PDT X cl a T) : PDW X cl (.BoolOp .Or [a] pos) T := let ⟨t, h1, h2⟩ := h; ⟨t, pw_or1 h1, h2⟩
theorem pdw_and {T U : DB} {rest : List Expr} (ha : PDT X cl a T) (hb : PDW X cl (.BoolOp .And (b :: rest) pos) U) : PDW X cl (.BoolOp .And (a :: b :: rest) pos) (dAnd T U) := by
  obtain ⟨ta, a1, a2⟩ := ha
  obtain ⟨tb, b1, b2⟩ := hb
  refine ⟨_, pw_and a1 b1, fun ρ P σ H Q h rE f => a2 ρ _ σ H _ h rE fun k H' hp s => ?_⟩
  cases k with
  | true => exact b2 ρ P σ H' Q hp (rE.mono s) fun b H2 p s2 => f b H2 p (s.trans s2)
  | false => exact f false H' hp s
theorem pdw_or {T U : DB} {rest : List Expr} (ha : PDT X cl a T) (hb : PDW X cl (.BoolOp .Or (b :: rest) pos) U) : PDW X cl (.BoolOp .Or (a :: b :: rest) pos) (dOr T U) := by
  obtain ⟨ta, a1, a2⟩ := ha
  obtain ⟨tb, b1, b2⟩ := hb
  refine ⟨_, pw_or a1 b1, fun ρ P σ H Q h rE f => a2 ρ _ σ H _ h rE fun k H' hp s => ?_⟩
  cases k with
  | true => exact f true H' hp s
  | false => exact b2 ρ P σ H' Q hp (rE.mono s) fun b H2 p s2 => f b H2 p (s.trans s2)
theorem pdt_w {T : DB} (h : PDW X cl a T) : PDT X cl a T := let ⟨t, h1, h2⟩ := h; ⟨t, h1.pt, h2⟩
theorem pdt_not {T : DB} (h : PDT X cl a T) : PDT X cl (.UnaryOp .Not a pos) (dNot T) := by
  obtain ⟨ta, a1, a2⟩ := h
  exact ⟨_, pt_not a1, fun ρ P σ H Q h rE f => a2 ρ _ σ H _ h rE fun k H' hp s => f _ H' hp s⟩
/-- as values: bools alone -/
def dAndV (T U : DT) : DT := fun ρ P => T ρ fun d => match d with
  | .bl c => if c = true then U ρ P else P (.bl false)
  | _ => False
def dOrV (T U : DT) : DT := fun ρ P => T ρ fun d => match d with
  | .bl c => if c = true then P (.bl true) else U ρ P
  | _ => False
theorem pd_one {op} {T : DT} (h : PD X cl a T) : PD X cl (.BoolOp op [a] pos) T := let ⟨t, h1, h2⟩ := h; ⟨t, pe_one h1, h2⟩
theorem pd_and {T U : DT} {rest : List Expr} (ha : PD X cl a T) (hb : PD X cl (.BoolOp .And (b :: rest) pos) U) : PD X cl (.BoolOp .And (a :: b :: rest) pos) (dAndV T U) := by
  obtain ⟨ta, a1, a2⟩ := ha
  obtain ⟨tb, b1, b2⟩ := hb
  refine ⟨_, pe_and a1 b1, fun ρ P σ H Q h rE f => a2 ρ _ σ H _ h rE fun d v H' hp s rv => ?_⟩
  cases rv with
  | bl k =>
    refine ⟨k, rfl, ?_⟩
    cases k with
    | true => exact b2 ρ P σ H' Q hp (rE.mono s) (f.from s)
    | false => exact f _ _ H' hp s (.bl false)
  | _ => exact hp.elim
theorem pd_or {T U : DT} {rest : List Expr} (ha : PD X cl a T) (hb : PD X cl (.BoolOp .Or (b :: rest) pos) U) : PD X cl (.BoolOp .Or (a :: b :: rest) pos) (dOrV T U) := by
  obtain ⟨ta, a1, a2⟩ := ha
  obtain ⟨tb, b1, b2⟩ := hb
  refine ⟨_, pe_or a1 b1, fun ρ P σ H Q h rE f => a2 ρ _ σ H _ h rE fun d v H' hp s rv => ?_⟩
  cases rv with
  | bl k =>
    refine ⟨k, rfl, ?_⟩
    cases k with
    | true => exact f _ _ H' hp s (.bl true)
    | false => exact b2 ρ P σ H' Q hp (rE.mono s) (f.from s)
  | _ => exact hp.elim
/-- a if c else b -/
def dIf (C : DB) (T U : DT) : DT := fun ρ P => C ρ fun c => if c = true then T ρ P else U ρ P
theorem pd_if {C : DB} {T U : DT} (hc : PDT X cl c C) (ha : PD X cl a T) (hb : PD X cl b U) : PD X cl (.IfExp c a b pos) (dIf C T U) := by
  obtain ⟨tc, c1, c2⟩ := hc
  obtain ⟨ta, a1, a2⟩ := ha
  obtain ⟨tb, b1, b2⟩ := hb
  refine ⟨_, pe_ifExp c1 a1 b1, fun ρ P σ H Q h rE f => c2 ρ _ σ H _ h rE fun k H' hp s => ?_⟩
  cases k with
  | true => exact a2 ρ P σ H' Q hp (rE.mono s) (f.from s)
  | false => exact b2 ρ P σ H' Q hp (rE.mono s) (f.from s)
/-! ### argument lists, displays -/
def dNil : DA := fun _ P => P []
def dCons (T : DT) (U : DA) : DA := fun ρ P => T ρ fun d => U ρ fun ds => P (d :: ds)
theorem pda_nil : PDA X cl [] dNil := ⟨_, pa_nil, fun _ _ _ H _ h _ f => f _ _ H h (Same.refl H) .nil⟩
theorem pda_cons {T : DT} {U : DA} {es : List Expr} (ha : PD X cl a T) (hr : PDA X cl es U) (hs : starEach (a :: es) X.env = (false, eval a X.env) :: starEach es X.env := by rfl) : PDA X cl (a :: es) (dCons T U) := by
  obtain ⟨ta, a1, a2⟩ := ha
  obtain ⟨tb, b1, b2⟩ := hr
  refine ⟨_, pa_cons a1 b1 hs, fun ρ P σ H Q h rE f => a2 ρ _ σ H _ h rE fun d v H' hp s rv => b2 ρ _ σ H' _ hp (rE.mono s) fun ds vs H2 p s2 r2 => ?_⟩
  exact f _ _ H2 p (s.trans s2) (.cons (rv.mono s2) r2)
theorem same_upd {H : Hp} {p : Addr} {o : HO} (h : H p = none) : Same H (upd H p o) := fun b u e => by rw [upd_ne (ne_of_none e h)]; exact e
def dLst (U : DA) : DT := fun ρ P => U ρ fun ds => ds.length ≤ 1000 ∧ P (.lst ds)
def dTup (U : DA) : DT := fun ρ P => U ρ fun ds => ds.length ≤ 1000 ∧ P (.tup ds)
theorem k_line {n : Nat} (h : n ≤ 1000) : n ≤ sizeLine := Nat.le_trans h (by decide)
theorem pd_lst {U : DA} {es : List Expr} (h : PDA X cl es U) : PD X cl (.List es pos) (dLst U) := by
  obtain ⟨t, h1, h2⟩ := h
  refine ⟨_, pe_lst h1, fun ρ P σ H Q h rE f => h2 ρ _ σ H _ h rE fun ds vs H' hp s r => ⟨by rw [r.length]; exact k_line hp.1, fun p hn => ?_⟩⟩
  exact f _ _ _ hp.2 (s.trans (same_upd hn)) (.lst (SqL.of upd_same) (r.mono (same_upd hn)))
theorem pd_tup {U : DA} {es : List Expr} {x1} (h : PDA X cl es U) : PD X cl (.Tuple es x1 pos) (dTup U) := by
  obtain ⟨t, h1, h2⟩ := h
  refine ⟨_, pe_tup h1, fun ρ P σ H Q h rE f => h2 ρ _ σ H _ h rE fun ds vs H' hp s r => ⟨by rw [r.length]; exact k_line hp.1, fun p hn => ?_⟩⟩
  exact f _ _ _ hp.2 (s.trans (same_upd hn)) (.tup (SqT.of upd_same) (r.mono (same_upd hn)))
/-! ### fields, items, slices, in, + of lists -/
def dFld (T : DT) (c f : Str) : DT := fun ρ P => T ρ fun d => match d with
  | .obj c' fs => c' = c ∧ (match fs.lookup f with | some e => P e | none => False)
  | _ => False
theorem pd_fld {T : DT} {c f : Str} (he : PD X cl a T) (hc : Cls X.K (cl c)) (hn : NoAttr X.K (cl c) f) (hb : attributeBase a f X.env (eval a X.env) = eval a X.env := by rfl) : PD X cl (.Attribute a f pos) (dFld T c f) := by
  obtain ⟨t, h1, h2⟩ := he
  refine ⟨_, pe_fld h1 hb, fun ρ P σ H Q h rE ft => h2 ρ _ σ H _ h rE fun d v H' hp s rv => ?_⟩
  cases rv with
  | obj q r =>
    obtain ⟨e, hp⟩ := hp
    subst e
    split at hp
    · rename_i d' e'
      obtain ⟨v', l1, l2⟩ := r.get e'
      exact ⟨_, _, _, _, v', rfl, q, hc, hn, l1, ft _ _ H' hp s l2⟩
    · exact hp.elim
  | _ => exact hp.elim
def oIx : DO := fun x y P => match x, y with
  | .lst xs, .int i => (match atI xs i with | some d => P d | none => False)
  | .tup xs, .int i => (match atI xs i with | some d => P d | none => False)
  | _, _ => False
theorem RepL.at {K : Frag} {H : Hp} {vs : List V} {ds : List D} (r : RepL K cl H vs ds) {i : Int} {d : D} (h : atI ds i = some d) : ∃ v, atI vs i = some v ∧ Rep K cl H v d := by
  unfold atI at h ⊢
  rw [r.length]
  cases e : ixN ds.length i with
  | none => rw [e] at h; cases h
  | some j =>
    rw [e] at h
    exact r.get (i := j) h
theorem pd_ix {Ta Tb : DT} (ha : PD X cl a Ta) (hb : PD X cl b Tb) (hs : PlainIx b := by intro _ _; rfl) : PD X cl (.Subscript a b pos) (dOp oIx Ta Tb) := by
  obtain ⟨ta, a1, a2⟩ := ha
  obtain ⟨tb, b1, b2⟩ := hb
  refine ⟨_, pe_ix ix_seq a1 b1 hs, op_fit (a := a) (b := b) (fun x y d e H P Q r1 r2 ho ft => ?_) a2 b2⟩
  cases r1 with
  | lst q r =>
    cases r2 with
    | int i =>
      dsimp only [oIx] at ho
      split at ho
      · rename_i d' e'
        obtain ⟨v, h1, h2⟩ := r.at e'
        exact .inl ⟨_, _, i, v, rfl, rfl, q, h1, ft _ _ H ho (Same.refl H) h2⟩
      · exact ho.elim
    | _ => exact ho.elim
  | tup q r =>
    cases r2 with
    | int i =>
      dsimp only [oIx] at ho
      split at ho
      · rename_i d' e'
        obtain ⟨v, h1, h2⟩ := r.at e'
        exact .inr (.inl ⟨_, _, i, v, rfl, rfl, q, h1, ft _ _ H ho (Same.refl H) h2⟩)
      · exact ho.elim
    | _ => exact ho.elim
  | _ => exact ho.elim
/-- a slice's end -/
abbrev DO1 := En → (Option Int → Prop) → Prop
def PDO (X : Cx) (cl : ClM) (e : Option Expr) (T : DO1) : Prop := ∃ t, PO X e t ∧ ∀ ρ P σ H Q, T ρ P → RepE X.K cl H σ ρ → (∀ o H', P o → Same H H' → Q o H') → t σ H Q
def dNoPart : DO1 := fun _ P => P none
def dPart (T : DT) : DO1 := fun ρ P => T ρ fun d => match d with
  | .int i => P (some i)
  | _ => False
theorem pdo_none : PDO X cl none dNoPart := ⟨_, po_none, fun _ _ _ H _ h _ f => f _ H h (Same.refl H)⟩
theorem pdo_some {T : DT} (h : PD X cl a T) : PDO X cl (some a) (dPart T) := by
  obtain ⟨t, h1, h2⟩ := h
  refine ⟨_, po_some h1, fun ρ P σ H Q h rE f => h2 ρ _ σ H _ h rE fun d v H' hp s rv => ?_⟩
  cases rv with
  | int i => exact ⟨i, rfl, f _ H' hp s⟩
  | _ => exact hp.elim
def cutD (xs : List D) (lo hi : Option Int) : List D := (xs.drop (HT.sIx xs.length 0 lo)).take (HT.sIx xs.length xs.length hi - HT.sIx xs.length 0 lo)
def dSl (T : DT) (L U : DO1) : DT := fun ρ P => T ρ fun d => L ρ fun lo => U ρ fun hi => match d with
  | .lst xs => P (.lst (cutD xs lo hi))
  | _ => False
theorem pd_slice {T : DT} {L U : DO1} {lo hi : Option Expr} {p2 : Pos} (ha : PD X cl a T) (hl : PDO X cl lo L) (hu : PDO X cl hi U) : PD X cl (.Subscript a (.Slice lo hi none p2) pos) (dSl T L U) := by
  obtain ⟨t, h1, h2⟩ := ha
  obtain ⟨tl, l1, l2⟩ := hl
  obtain ⟨tu, u1, u2⟩ := hu
  refine ⟨_, pe_slice sl_list h1 l1 u1, fun ρ P σ H Q h rE f => h2 ρ _ σ H _ h rE fun d v H1 hp s1 rv => l2 ρ _ σ H1 _ hp (rE.mono s1) fun o1 H2 hp2 s2 => u2 ρ _ σ H2 _ hp2 ((rE.mono s1).mono s2) fun o2 H3 hp3 s3 => ?_⟩
  have rv3 := (rv.mono s2).mono s3
  cases rv3 with
  | lst q r =>
    refine ⟨_, _, rfl, q, fun p hn => f _ _ _ hp3 (((s1.trans s2).trans s3).trans (same_upd hn)) (.lst (SqL.of upd_same) ?_)⟩
    have e := r.length
    unfold cutV cutD
    rw [e]
    exact ((r.mono (same_upd hn)).drop _).take _
  | _ => exact hp3.elim
/-- in -/
def flatD : D → Bool
  | .non => true
  | .bl _ => true
  | .int _ => true
  | .str _ => true
  | _ => false
def eqD : D → D → Bool
  | .non, .non => true
  | .bl a, .bl b => a == b
  | .bl a, .int b => (if a then 1 else 0) == b
  | .int a, .bl b => a == (if b then 1 else 0)
  | .int a, .int b => a == b
  | .str a, .str b => a == b
  | _, _ => false
def inD (x : D) (xs : List D) : Bool := xs.any fun y => eqD y x
def oIn (neg : Bool) : DO := fun x y P => match y with
  | .lst xs => flatD x = true ∧ xs.all flatD = true ∧ P (.bl (if neg then !inD x xs else inD x xs))
  | .tup xs => flatD x = true ∧ xs.all flatD = true ∧ P (.bl (if neg then !inD x xs else inD x xs))
  | _ => False
theorem Rep.flat {K : Frag} {H : Hp} {v : V} {d : D} (r : Rep K cl H v d) (h : flatD d = true) : flatV v = true ∧ ∀ {w : V} {e : D}, Rep K cl H w e → flatD e = true → eqV w v = eqD e d := by
  cases r with
  | non => exact ⟨rfl, fun {w e} r2 h2 => by cases r2 <;> first | rfl | cases h2⟩
  | bl b => exact ⟨rfl, fun {w e} r2 h2 => by cases r2 <;> first | rfl | cases h2⟩
  | int b => exact ⟨rfl, fun {w e} r2 h2 => by cases r2 <;> first | rfl | cases h2⟩
  | str b => exact ⟨rfl, fun {w e} r2 h2 => by cases r2 <;> first | rfl | cases h2⟩
  | lst _ _ => cases h
  | tup _ _ => cases h
  | obj _ _ => cases h
theorem RepL.flat {K : Frag} {H : Hp} {v : V} {d : D} (r : Rep K cl H v d) (h : flatD d = true) : ∀ {vs : List V} {ds : List D}, RepL K cl H vs ds → ds.all flatD = true → vs.all flatV = true ∧ inV v vs = inD d ds
  | _, _, .nil, _ => ⟨rfl, rfl⟩
  | _, _, .cons (v := w) (d := e) (vs := ws) (ds := es) a b, h2 => by
    rw [List.all_cons, Bool.and_eq_true] at h2
    obtain ⟨h3, h4⟩ := RepL.flat r h b h2.2
    refine ⟨by rw [List.all_cons, (a.flat h2.1).1, h3]; rfl, ?_⟩
    unfold inV inD at h4 ⊢
    rw [List.any_cons, List.any_cons, h4, (r.flat h).2 a h2.1]
theorem od_in_gen {neg : Bool} {op : CmpOp} (h : OpR X (compareOp op) (rIn X.K neg)) : OpD X cl (compareOp op) (oIn neg) := by
  refine ⟨_, h, fun x y d e H P Q r1 r2 ho ft => ?_⟩
  cases r2 with
  | lst q r =>
    obtain ⟨h1, h2, h3⟩ := ho
    obtain ⟨h4, h5⟩ := RepL.flat r1 h1 r h2
    exact ⟨_, _, rfl, .inl q, (r1.flat h1).1, h4, ft _ _ H h3 (Same.refl H) (by rw [h5]; exact .bl _)⟩
  | tup q r =>
    obtain ⟨h1, h2, h3⟩ := ho
    obtain ⟨h4, h5⟩ := RepL.flat r1 h1 r h2
    exact ⟨_, _, rfl, .inr q, (r1.flat h1).1, h4, ft _ _ H h3 (Same.refl H) (by rw [h5]; exact .bl _)⟩
  | _ => exact ho.elim
theorem od_in : OpD X cl (compareOp .In) (oIn false) := od_in_gen op_in_seq
theorem od_notin : OpD X cl (compareOp .NotIn) (oIn true) := od_in_gen op_notIn_seq
end
end DD

set_option Elab.async false
set_option linter.all false
set_option maxRecDepth 100000
namespace DD
open PySem PySem.Spec PyProof.Rows L2
section
variable {X : Cx} {cl : ClM} {pos : Pos} {a b c : Expr}
/-! ### + of ints and of lists -/
def rCatS (K : Frag) : R2 := fun x y H Q => ∃ l b xs zs, x = .ref l ∧ y = .ref b ∧ SqL K H l xs ∧ SqL K H b zs ∧ xs.length + zs.length ≤ sizeLine ∧ ∀ p, H p = none → Q (.ref p) (upd H p (.lst (xs ++ zs)))
theorem op_catS : OpR X (binaryOp .Add) (rCatS X.K) := by
  intro pins s σ H x y v u Q I rx ry h
  obtain ⟨l, b, xs, zs, rfl, rfl, hH, hB, hz, q⟩ := h
  cases rx
  cases ry
  obtain ⟨its, r, ⟨⟨cls, dd, data, sl⟩, n, ho, hc, _, hd⟩, _⟩ := I.list hH
  obtain ⟨its2, r2, ⟨⟨cls2, dd2, data2, sl2⟩, n2, ho2, hc2, _, hd2⟩, _⟩ := I.list hB
  simp only at hc hd hc2 hd2
  subst hc hd hc2 hd2
  have hl := r.length
  have hl2 := r2.length
  have e : its.toArray ++ its2.toArray = (its ++ its2).toArray := by simp
  refine concat_meets ⟨_, ho, rfl⟩ ⟨_, ho2, rfl⟩ noFill_list_add seq_list_add PySem.F.slot_list_add PySem.F.entry_list_add (PySem.F.args_list_add_2 _ _) (list_addW l b its.toArray its2.toArray n n2 dd dd2 sl sl2 (by simp only [List.size_toArray]; omega)) ⟨ho, ho2, ?_⟩
  rw [e]
  exact ⟨.ref _, _, I.lnew (t' := s.toks) (r.append r2) (by rw [List.length_append]; omega), rfl, q _ I.fresh⟩
def oAdd : DO := fun x y P => match x, y with
  | .int i, .int j => P (.int (i + j))
  | .lst xs, .lst ys => xs.length + ys.length ≤ 1000 ∧ P (.lst (xs ++ ys))
  | _, _ => False
theorem od_plus : OpD X cl (binaryOp .Add) oAdd := by
  refine ⟨_, op_add.or op_catS, fun x y d e H P Q r1 r2 ho ft => ?_⟩
  cases r1 with
  | int i =>
    cases r2 with
    | int j => exact .inl ⟨i, j, rfl, rfl, ft _ _ H ho (Same.refl H) (.int _)⟩
    | _ => exact ho.elim
  | lst q r =>
    cases r2 with
    | lst q2 r2 =>
      obtain ⟨h1, h2⟩ := ho
      refine .inr ⟨_, _, _, _, rfl, rfl, q, q2, by rw [r.length, r2.length]; exact k_line h1, fun p hn => ?_⟩
      exact ft _ _ _ h2 (same_upd hn) (.lst (SqL.of upd_same) ((r.mono (same_upd hn)).append (r2.mono (same_upd hn))))
    | _ => exact ho.elim
  | _ => exact ho.elim
/-! ### built-in functions -/
abbrev DCt := List D → (D → Prop) → Prop
def CallD (X : Cx) (cl : ClM) (f : Value) (o : DCt) : Prop := ∃ r, CallR X f r ∧ ∀ vs ds H P Q, RepL X.K cl H vs ds → o ds P → Fit X.K cl H P Q → r vs H Q
def dCall (C : DCt) (U : DA) : DT := fun ρ P => U ρ fun ds => C ds P
theorem pd_callB {x : Str} {id : String} {o : DCt} {e : Expr} {es : List Expr} {U : DA} {p : Pos} (hc : CallD X cl (.builtin id) o) (hm : X.mg x = none) (hv : bootBuiltins x = some (.builtin id)) (ha : PDA X cl (e :: es) U) (hg : Gl X x := by rfl) (hn : x ≠ "__name__" := by decide) (hdb : (x == ("__debug__" : Str)) = false := by decide)
    (he : starEach (e :: es) X.env = (false, eval e X.env) :: starEach es X.env := by rfl) (hpl : (backTo pos (starEach es X.env)).any (·.1) = false := by rfl) : PD X cl (.Call (.Name x p) (e :: es) [] pos) (dCall o U) := by
  obtain ⟨r, h1, h2⟩ := hc
  obtain ⟨t, a1, a2⟩ := ha
  exact ⟨_, pe_callB h1 hg hm hv a1 hn hdb he hpl, fun ρ P σ H Q h rE f => a2 ρ _ σ H _ h rE fun ds vs H' hp s r => h2 vs ds H' P Q r hp (f.from s)⟩
def cAbs : DCt := fun ds P => match ds with
  | [.int i] => P (.int (if i < 0 then -i else i))
  | _ => False
def cMin : DCt := fun ds P => match ds with
  | [.int i, .int j] => P (.int (if j < i then j else i))
  | _ => False
def cMax : DCt := fun ds P => match ds with
  | [.int i, .int j] => P (.int (if j > i then j else i))
  | _ => False
theorem cd_abs : CallD X cl (.builtin "abs") cAbs := by
  refine ⟨_, call_abs, fun vs ds H P Q r ho ft => ?_⟩
  cases r with
  | nil => exact ho.elim
  | cons r1 r2 =>
    cases r1 with
    | int i =>
      cases r2 with
      | nil => exact ⟨i, rfl, ft _ _ H ho (Same.refl H) (.int _)⟩
      | cons _ _ => exact ho.elim
    | _ => cases r2 <;> exact ho.elim
theorem cd_min (hc : X.calm = true := by rfl) : CallD X cl (.builtin "min") cMin := by
  refine ⟨_, call_min2 hc, fun vs ds H P Q r ho ft => ?_⟩
  cases r with
  | nil => exact ho.elim
  | cons r1 r2 =>
    cases r2 with
    | nil => cases r1 <;> exact ho.elim
    | cons r2 r3 =>
      cases r3 with
      | cons _ _ => cases r1 <;> cases r2 <;> exact ho.elim
      | nil =>
        cases r1 with
        | int i =>
          cases r2 with
          | int j => exact ⟨i, j, rfl, ft _ _ H ho (Same.refl H) (.int _)⟩
          | _ => exact ho.elim
        | _ => exact ho.elim
theorem cd_max (hc : X.calm = true := by rfl) : CallD X cl (.builtin "max") cMax := by
  refine ⟨_, call_max2 hc, fun vs ds H P Q r ho ft => ?_⟩
  cases r with
  | nil => exact ho.elim
  | cons r1 r2 =>
    cases r2 with
    | nil => cases r1 <;> exact ho.elim
    | cons r2 r3 =>
      cases r3 with
      | cons _ _ => cases r1 <;> cases r2 <;> exact ho.elim
      | nil =>
        cases r1 with
        | int i =>
          cases r2 with
          | int j => exact ⟨i, j, rfl, ft _ _ H ho (Same.refl H) (.int _)⟩
          | _ => exact ho.elim
        | _ => exact ho.elim
/-- any of a list of bools -/
def blsOf : List D → Option (List Bool)
  | [] => some []
  | .bl b :: r => (blsOf r).map (b :: ·)
  | _ => none
def cAny : DCt := fun ds P => match ds with
  | [.lst xs] => (match blsOf xs with | some bs => P (.bl (bs.any id)) | none => False)
  | _ => False
theorem RepL.bls {K : Frag} {H : Hp} : ∀ {vs : List V} {ds : List D} {bs : List Bool}, RepL K cl H vs ds → blsOf ds = some bs → vs = bs.map V.bl
  | _, _, _, .nil, h => by simp [blsOf] at h; subst h; rfl
  | _, _, _, .cons (d := d) (ds := ds) a b, h => by
    cases a with
    | bl x =>
      simp only [blsOf] at h
      cases e : blsOf ds with
      | none => rw [e] at h; cases h
      | some r =>
        rw [e] at h
        cases h
        rw [RepL.bls b e]; rfl
    | _ => cases h
theorem cd_any (hc : X.calm = true := by rfl) : CallD X cl (.builtin "any") cAny := by
  refine ⟨_, cr_any hc, fun vs ds H P Q r ho ft => ?_⟩
  cases r with
  | nil => exact ho.elim
  | cons r1 r2 =>
    cases r1 with
    | lst q rr =>
      cases r2 with
      | cons _ _ => exact ho.elim
      | nil =>
        dsimp only [cAny] at ho
        split at ho
        · rename_i bs e
          have e2 := rr.bls e
          subst e2
          exact ⟨_, bs, rfl, q, ft _ _ H ho (Same.refl H) (.bl _)⟩
        · exact ho.elim
    | _ => cases r2 <;> exact ho.elim
/-! ### i.bit_length() -/
def rBitLen : V → List V → Hp → VK → Prop := fun x xs H Q => ∃ i, x = .int i ∧ xs = [] ∧ Q (.int (Builtin.Int.intBits i)) H
theorem mt_bitlen : MtR X "int.bit_length" rBitLen := by
  intro pins s σ H x xs v us Q I rx rs h
  obtain ⟨i, rfl, rfl, q⟩ := h
  obtain ⟨t, rfl⟩ := rx
  rw [Vals.zero rs]
  exact call_int_bit_length ⟨.int _, H, I.tok _, ⟨_, rfl⟩, q⟩
def dBitLen (T : DT) : DT := fun ρ P => T ρ fun d => match d with
  | .int i => P (.int (Builtin.Int.intBits i))
  | _ => False
theorem pd_bitlen {T : DT} {apos cpos : Pos} (h : PD X cl a T) (hbase : attributeBase a "bit_length" X.env (eval a X.env) = eval a X.env := by rfl) (hline : (apos.endLine == cpos.line) = true := by rfl) : PD X cl (.Call (.Attribute a "bit_length" apos) [] [] cpos) (dBitLen T) := by
  obtain ⟨t, h1, h2⟩ := h
  refine ⟨_, pe_bm0 PySem.F.plainAttrs_int PySem.F.slot_int_bit_length PySem.F.type_int_bit_length mt_bitlen h1 hbase hline, fun ρ P σ H Q h rE f => h2 ρ _ σ H _ h rE fun d v H' hp s rv => ?_⟩
  cases rv with
  | int i => exact ⟨rfl, i, rfl, rfl, f _ _ H' hp s (.int _)⟩
  | _ => exact hp.elim
/-! ### defs of the text -/
/-- a def's promise from a contract over data -/
def spD (K : Frag) (cl : ClM) (n : Nat) (C : DCt) : Sp := fun vs H Q _ => ∃ ds P, vs.length = n ∧ RepL K cl H vs ds ∧ C ds P ∧ Fit K cl H P Q
structure FnD (P : Program) (w : World) (K : Frag) (mg : Str → Option Value) (base : Heap) (cl : ClM) (k : Nat) (x : Str) (n : Nat) (C : DCt) : Prop where
  ex : ∃ (f : Addr) (fd : FuncData) (ps : List Str), mg x = some (.ref f) ∧ PySem.W.keepIn K (.ref f) = true ∧ Binds K fd ps [] ∧ FnOk P w K mg base CX0 k f fd ps (spD K cl n C)
theorem FnD.mono {P : Program} {w : World} {K : Frag} {mg : Str → Option Value} {base : Heap} {j k : Nat} {x : Str} {n : Nat} {C : DCt} (F : FnD P w K mg base cl j x n C) (h : j ≤ k) : FnD P w K mg base cl k x n C := by
  obtain ⟨f, fd, ps, h1, h2, h3, h4⟩ := F.ex
  exact ⟨f, fd, ps, h1, h2, h3, h4.mono h⟩
theorem pd_call {k : Nat} {x : Str} {n : Nat} {C : DCt} {e : Expr} {es : List Expr} {U : DA} {p : Pos} (F : FnD X.prog X.w X.K X.mg X.base cl k x n C) (hr : Room k X.A) (ha : PDA X cl (e :: es) U) (hn : (e :: es).length = n := by rfl) (hg : Gl X x := by rfl) (hdb : (x == ("__debug__" : Str)) = false := by decide)
    (he : starEach (e :: es) X.env = (false, eval e X.env) :: starEach es X.env := by rfl) (hpl : (backTo pos (starEach es X.env)).any (·.1) = false := by rfl) :
    PD X cl (.Call (.Name x p) (e :: es) [] pos) (dCall (fun ds P => ds.length = n ∧ C ds P) U) := by
  obtain ⟨f, fd, ps, h1, h2, h3, h4⟩ := F.ex
  obtain ⟨t, a1, a2⟩ := ha
  refine ⟨_, pe_call h4 hr hg h1 h2 h3 .nil pass0 a1 hdb he hpl, fun ρ P σ H Q h rE f => a2 ρ _ σ H _ h rE fun ds vs H' hp s r => ?_⟩
  exact ⟨ds, P, by rw [List.append_nil, r.length]; exact hp.1, by rw [List.append_nil]; exact r, hp.2, f.from s⟩
theorem repE_start {K : Frag} {H : Hp} {N : List Str} {vs : List V} {ds : List D} (r : RepL K cl H vs ds) : RepE K cl H (L2.start N vs) (ds.map some ++ List.replicate (N.length - ds.length) none) := by
  have e := r.length
  refine ⟨by unfold L2.start; simp only [List.length_append, List.length_map, List.length_replicate]; omega, fun i d h => ?_⟩
  by_cases hi : i < ds.length
  · rw [List.getElem?_append_left (by simpa using hi), List.getElem?_map] at h
    obtain ⟨d', h1, h2⟩ := Option.map_eq_some_iff.mp h
    cases h2
    obtain ⟨v, h3, h4⟩ := r.get h1
    refine ⟨v, ?_, h4⟩
    unfold L2.start
    rw [List.getElem?_append_left (by simp; omega), List.getElem?_map, h3]; rfl
  · rw [List.getElem?_append_right (by simpa using hi), List.getElem?_replicate] at h
    split at h <;> cases h
/-- THE RULE for a def: its body's term, and its reading over data -/
theorem fnD {P : Program} {w : World} {K : Frag} {mg : Str → Option Value} {base : Heap} {x qual : Str} {st : Stmt} {f : Addr} {fd : FuncData} {N ps : List Str} {k : Nat} {C : DCt} (F : Fun K x qual st f fd) (S : FnScope N ps (defScope st)) (hm : mg x = some (.ref f)) (hb : Binds K fd ps [])
    (hbody : ∀ (cdv : Value) (A : Around) (outer : List PySem.Env) (s : Shared) (H : Hp) (E : XK), Room k (A.deeper (envOfC qual (defScope st) s.heap.objs.size f cdv)) →
      ∃ T, PDSs (cxOf CX0 P w K mg base N qual (defScope st) f cdv A outer s H E).nox cl (defBody st) T ∧ ∀ ds Pp, ds.length = ps.length → C ds Pp → T (fun _ => Pp .non) Pp (ds.map some ++ List.replicate (N.length - ps.length) none)) :
    FnD P w K mg base cl (k + 1) x ps.length C := by
  refine ⟨f, fd, ps, hm, F.kp, hb, F.ok S (fun vs H Q E h => ?_) (fun cdv A outer s H vs Q E hr h => ?_)⟩
  · obtain ⟨ds, Pp, h1, _⟩ := h
    exact h1
  · obtain ⟨ds, Pp, h1, h2, h3, h4⟩ := h
    obtain ⟨T, ⟨t, t1, t2⟩, hT⟩ := hbody cdv A outer s H E hr
    refine ⟨t, t1, t2 _ _ _ _ _ _ (hT ds Pp (by rw [← h2.length]; exact h1) h3) ?_ ⟨fun ρ σ H' p sm _ => h4 _ _ H' p sm .non, h4⟩⟩
    have := repE_start (N := N) h2
    have e : ds.length = ps.length := by rw [← h2.length]; exact h1
    rw [e] at this
    exact this
/-! ### statements -/
def dNext : DS := fun N _ ρ => N ρ
def dSeq (T U : DS) : DS := fun N R ρ => T (U N R) R ρ
theorem pdss_nil : PDSs X cl [] dNext := ⟨_, pss_nil, fun ρ N R σ H E h rE f => f.1 ρ σ H h (Same.refl H) rE⟩
theorem pdss_cons {st : Stmt} {rest : List Stmt} {T U : DS} (h1 : PDS X cl st T) (h2 : PDSs X cl rest U) : PDSs X cl (st :: rest) (dSeq T U) := by
  obtain ⟨t, a1, a2⟩ := h1
  obtain ⟨u, b1, b2⟩ := h2
  refine ⟨_, pss_cons a1 b1, fun ρ N R σ H E h rE f => a2 ρ _ R σ H _ h rE ⟨fun ρ' σ' H' p s r => ?_, f.2⟩⟩
  exact b2 ρ' N R σ' H' E p r (f.from s)
theorem pdss_one {st : Stmt} {T : DS} (h1 : PDS X cl st T) : PDSs X cl [st] T := let ⟨t, a1, a2⟩ := h1; ⟨_, pss_one a1, a2⟩
def dRet (T : DT) : DS := fun _ R ρ => T ρ R
theorem pds_ret {T : DT} (h : PD X cl a T) : PDS X cl (.Return (some a) pos) (dRet T) := by
  obtain ⟨t, a1, a2⟩ := h
  exact ⟨_, ps_ret a1, fun ρ N R σ H E h rE f => a2 ρ _ σ H _ h rE f.2⟩
def dIfS (C : DB) (T U : DS) : DS := fun N R ρ => C ρ fun c => if c = true then T N R ρ else U N R ρ
theorem pds_if {C : DB} {T U : DS} {x y : List Stmt} (hc : PDT X cl c C) (hx : PDSs X cl x T) (hy : PDSs X cl y U) : PDS X cl (.If c x y pos) (dIfS C T U) := by
  obtain ⟨tc, c1, c2⟩ := hc
  obtain ⟨tx, x1, x2⟩ := hx
  obtain ⟨ty, y1, y2⟩ := hy
  refine ⟨_, ps_if c1 x1 y1, fun ρ N R σ H E h rE f => c2 ρ _ σ H _ h rE fun k H' hp s => ?_⟩
  cases k with
  | true => exact x2 ρ N R σ H' E hp (rE.mono s) (f.from s)
  | false => exact y2 ρ N R σ H' E hp (rE.mono s) (f.from s)
def dSet (i : Nat) (T : DT) : DS := fun N _ ρ => T ρ fun d => N (ρ.set i (some d))
theorem pds_set (i : Nat) {x : Str} {e : Expr} {T : DT} {pos' : Pos} (he : PD X cl e T) (hN : X.N.Nodup) (hi : X.N[i]? = some x := by rfl) (hx : Loc X.env.scope x := by exact Or.inl rfl) (hs : swapsWith e (some (.Name x pos')) pos.line X.env = pure false := by rfl)
    (hf : X.fn x = true ∨ X.env.scope.names.lookup x = some .local := by first | exact .inl rfl | exact .inr rfl) : PDS X cl (.Assign [.Name x pos'] e pos) (dSet i T) := by
  obtain ⟨t, a1, a2⟩ := he
  exact ⟨_, ps_set hN hi hx a1 hs hf, fun ρ N R σ H E h rE f => a2 ρ _ σ H _ h rE fun d v H' hp s rv => f.1 _ _ H' hp s ((rE.mono s).set i rv)⟩
end
end DD

set_option Elab.async false
set_option linter.all false
set_option maxRecDepth 100000
namespace DD
open PySem PySem.Spec PyProof.Rows L2
/-! ### list comprehensions over a list: flat items, or the items themselves -/
def tOf (K : Frag) (cl : ClM) (T : DT) : TE := fun σ H Q => ∃ ρ P, T ρ P ∧ RepE K cl H σ ρ ∧ Fit K cl H P Q
def ttOf (K : Frag) (cl : ClM) (T : DB) : TT := fun σ H Q => ∃ ρ P, T ρ P ∧ RepE K cl H σ ρ ∧ ∀ b H', P b → Same H H' → Q b H'
theorem PD.te {X : Cx} {cl : ClM} {e : Expr} {T : DT} (h : PD X cl e T) : PE X e (tOf X.K cl T) := fun pins s σ H Q I ⟨ρ, P, h1, h2, h3⟩ => by
  obtain ⟨t, t1, t2⟩ := h
  exact t1 pins s σ H Q I (t2 ρ P σ H Q h1 h2 h3)
theorem PDT.tt {X : Cx} {cl : ClM} {e : Expr} {T : DB} (h : PDT X cl e T) : PT X e (ttOf X.K cl T) := fun pins s σ H Q I ⟨ρ, P, h1, h2, h3⟩ => by
  obtain ⟨t, t1, t2⟩ := h
  exact t1 pins s σ H Q I (t2 ρ P σ H Q h1 h2 h3)
/-- a clause's tests -/
def PDTs (X : Cx) (cl : ClM) (ifs : List Expr) (T : DB) : Prop := PTs X ifs (ttOf X.K cl T)
def dYes : DB := fun _ P => P true
theorem pdts_nil {X : Cx} {cl : ClM} : PDTs X cl [] dYes := fun pins s σ H Q I ⟨ρ, P, h1, h2, h3⟩ => pts_nil pins s σ H Q I (h3 true H h1 (Same.refl H))
theorem pdts_one {X : Cx} {cl : ClM} {c : Expr} {T : DB} (h : PDT X cl c T) : PDTs X cl [c] T := pts_one h.tt
/-- flat items -/
def lcF (i : Nat) (Tt : DB) (Te : DT) (ρ : En) : List D → List D → (List D → Prop) → Prop
  | [], acc, P => P acc
  | d :: ds, acc, P => Tt (ρ.set i (some d)) fun b => if b = true then Te (ρ.set i (some d)) fun y => flatD y = true ∧ lcF i Tt Te ρ ds (acc ++ [y]) P else lcF i Tt Te ρ ds acc P
/-- the items themselves -/
def lcV (i : Nat) (Tt : DB) (ρ : En) : List D → List D → (List D → Prop) → Prop
  | [], acc, P => P acc
  | d :: ds, acc, P => Tt (ρ.set i (some d)) fun b => if b = true then lcV i Tt ρ ds (acc ++ [d]) P else lcV i Tt ρ ds acc P
theorem Rep.any {K : Frag} {cl : ClM} {H H' : Hp} {v : V} {d : D} (r : Rep K cl H v d) (h : flatD d = true) : Rep K cl H' v d := by
  cases r with
  | non => exact .non
  | bl b => exact .bl b
  | int i => exact .int i
  | str x => exact .str x
  | lst _ _ => cases h
  | tup _ _ => cases h
  | obj _ _ => cases h
theorem same_new {H1 H4 : Hp} {D : Addr} {o : HO} (hn : H1 D = none) (s : Same H1 H4) : Same H1 (upd H4 D o) := fun b u e => by rw [upd_ne (ne_of_none e hn)]; exact s b u e
theorem drop_cons {α : Type} {l : List α} {j : Nat} {x : α} (h : l[j]? = some x) : l.drop j = x :: l.drop (j + 1) := by
  obtain ⟨h1, h2⟩ := List.getElem?_eq_some_iff.mp h
  rw [← h2]
  exact List.drop_eq_getElem_cons h1
theorem RepL.ix {K : Frag} {cl : ClM} {H : Hp} {vs : List V} {ds : List D} (r : RepL K cl H vs ds) {j : Nat} {v : V} (h : vs[j]? = some v) : ∃ d, ds[j]? = some d ∧ Rep K cl H v d := by
  obtain ⟨h1, _⟩ := List.getElem?_eq_some_iff.mp h
  have h2 : j < ds.length := by rw [← r.length]; exact h1
  obtain ⟨v', h3, h4⟩ := r.get (List.getElem?_eq_getElem h2)
  rw [h] at h3
  cases h3
  exact ⟨_, List.getElem?_eq_getElem h2, h4⟩
section
variable {X : Cx} {cl : ClM} {pos : Pos} {a b c : Expr}
theorem wipe_one {σ : L2.St} {i : Nat} {x : V} : wipe ((wipe σ [i]).set i (some x)) [i] = wipe σ [i] := by
  simp only [wipe, List.set_set]
theorem repE_wipe {K : Frag} {H : Hp} {σ : L2.St} {ρ : En} (r : RepE K cl H σ ρ) (i : Nat) : RepE K cl H (wipe σ [i]) (ρ.set i none) := by
  refine ⟨by simp only [wipe, List.length_set]; exact r.1, fun j d h => ?_⟩
  by_cases e : i = j
  · subst e
    by_cases hl : i < ρ.length
    · rw [List.getElem?_set_self hl] at h; cases h
    · rw [List.getElem?_eq_none (by rw [List.length_set]; omega)] at h; cases h
  · rw [List.getElem?_set_ne e] at h
    obtain ⟨v, h1, h2⟩ := r.2 j d h
    exact ⟨v, by simp only [wipe]; rw [List.getElem?_set_ne e]; exact h1, h2⟩
def dLcF (i : Nat) (Ti : DT) (Tt : DB) (Te : DT) : DT := fun ρ P => Ti ρ fun d => match d with
  | .lst ds => ds.length ≤ 1000 ∧ lcF i Tt Te (ρ.set i none) ds [] fun out => P (.lst out)
  | _ => False
def dLcV (i : Nat) (Ti : DT) (Tt : DB) : DT := fun ρ P => Ti ρ fun d => match d with
  | .lst ds => ds.length ≤ 1000 ∧ lcV i Tt (ρ.set i none) ds [] fun out => P (.lst out)
  | _ => False
theorem lcF_read {i : Nat} {Ti Te : DT} {Tt : DB} {ti : TE} (hi : ∀ ρ P σ H Q, Ti ρ P → RepE X.K cl H σ ρ → Fit X.K cl H P Q → ti σ H Q) :
    ∀ ρ P σ H Q, dLcF i Ti Tt Te ρ P → RepE X.K cl H σ ρ → Fit X.K cl H P Q → tLc (iList X.K ti) (gName i) (ttOf X.K cl Tt) (tOf X.K cl Te) [i] σ H Q := by
  intro ρ P σ H Q h rE ft
  refine hi ρ _ σ H _ h rE fun d v H1 hp s1 rv => ?_
  cases rv with
  | lst q r =>
    rename_i a xs ds
    obtain ⟨hlen, hp⟩ := hp
    refine ⟨a, rfl, ⟨xs, q⟩, fun D hD => ?_⟩
    refine lc_list (K := X.K) (a := a) (xs := xs) (fun j Hj => ∃ acc accD, Hj D = some (.lst acc) ∧ Same H1 Hj ∧ RepL X.K cl Hj acc accD ∧ accD.all flatD = true ∧ acc.length ≤ j ∧ lcF i Tt Te (ρ.set i none) (ds.drop j) accD fun out => P (.lst out)) ?_ ?_ ?_ ?_
    · exact ⟨[], [], upd_same, same_new hD (Same.refl _), .nil, rfl, Nat.le_refl _, hp⟩
    · rintro j Hj _ ⟨acc, accD, _, sj, _⟩
      exact sj.seq q
    · rintro j x Hj hx ⟨acc, accD, hDj, sj, rj, fl, lj, run⟩
      obtain ⟨dj, hdj, rx⟩ := r.ix hx
      rw [drop_cons hdj] at run
      have hxl : j < xs.length := (List.getElem?_eq_some_iff.mp hx).1
      have hl2 : xs.length = ds.length := r.length
      refine ⟨wipe_one, (ρ.set i none).set i (some dj), _, run, ?_, fun b H3 hb s3 => ?_⟩
      · exact (((repE_wipe rE i).mono s1).mono sj).set i (rx.mono sj)
      · cases b with
        | false =>
          exact ⟨acc, accD, s3 _ _ hDj, sj.trans s3, rj.mono s3, fl, Nat.le_succ_of_le lj, hb⟩
        | true =>
          refine ⟨(ρ.set i none).set i (some dj), _, hb, ((((repE_wipe rE i).mono s1).mono sj).mono s3).set i ((rx.mono sj).mono s3), fun y vy H4 hy s4 ry => ?_⟩
          refine ⟨acc, s4 _ _ (s3 _ _ hDj), Nat.lt_of_le_of_lt lj (Nat.lt_of_lt_of_le (by omega) (k_line hlen)), acc ++ [vy], accD ++ [y], upd_same, same_new hD ((sj.trans s3).trans s4), ?_, ?_, ?_, hy.2⟩
          · have all_any : ∀ {vs : List V} {ds : List DD.D} {H H' : Hp}, RepL X.K cl H vs ds → ds.all flatD = true → RepL X.K cl H' vs ds := by
              intro vs
              induction vs with
              | nil => intro ds H H' r _; cases r; exact .nil
              | cons v vs ih =>
                intro ds H H' r h
                cases r with
                | cons a b =>
                  rw [List.all_cons, Bool.and_eq_true] at h
                  exact .cons (a.any h.1) (ih b h.2)
            exact (all_any rj fl).append (.cons (ry.any hy.1) .nil)
          · rw [List.all_append, fl]
            simp [hy.1]
          · rw [List.length_append]; simp; exact lj
    · rintro Hn ⟨acc, accD, hDn, sn, rn, fl, ln, run⟩
      rw [List.drop_eq_nil_of_le (by rw [r.length]; exact Nat.le_refl _)] at run
      exact ft _ _ Hn run (s1.trans sn) (.lst (SqL.of hDn) rn)
  | _ => exact hp.elim
theorem lcV_read {i : Nat} {Ti : DT} {Tt : DB} {ti : TE} (hi : ∀ ρ P σ H Q, Ti ρ P → RepE X.K cl H σ ρ → Fit X.K cl H P Q → ti σ H Q) :
    ∀ ρ P σ H Q, dLcV i Ti Tt ρ P → RepE X.K cl H σ ρ → i < ρ.length → Fit X.K cl H P Q → tLc (iList X.K ti) (gName i) (ttOf X.K cl Tt) (tVar i) [i] σ H Q := by
  intro ρ P σ H Q h rE hil ft
  refine hi ρ _ σ H _ h rE fun d v H1 hp s1 rv => ?_
  cases rv with
  | lst q r =>
    rename_i a xs ds
    obtain ⟨hlen, hp⟩ := hp
    refine ⟨a, rfl, ⟨xs, q⟩, fun D hD => ?_⟩
    refine lc_list (K := X.K) (a := a) (xs := xs) (fun j Hj => ∃ acc accD, Hj D = some (.lst acc) ∧ Same H1 Hj ∧ RepL X.K cl H1 acc accD ∧ acc.length ≤ j ∧ lcV i Tt (ρ.set i none) (ds.drop j) accD fun out => P (.lst out)) ?_ ?_ ?_ ?_
    · exact ⟨[], [], upd_same, same_new hD (Same.refl _), .nil, Nat.le_refl _, hp⟩
    · rintro j Hj _ ⟨acc, accD, _, sj, _⟩
      exact sj.seq q
    · rintro j x Hj hx ⟨acc, accD, hDj, sj, rj, lj, run⟩
      obtain ⟨dj, hdj, rx⟩ := r.ix hx
      rw [drop_cons hdj] at run
      have hxl : j < xs.length := (List.getElem?_eq_some_iff.mp hx).1
      have hl2 : xs.length = ds.length := r.length
      refine ⟨wipe_one, (ρ.set i none).set i (some dj), _, run, ?_, fun b H3 hb s3 => ?_⟩
      · exact (((repE_wipe rE i).mono s1).mono sj).set i (rx.mono sj)
      · cases b with
        | false =>
          exact ⟨acc, accD, s3 _ _ hDj, sj.trans s3, rj, Nat.le_succ_of_le lj, hb⟩
        | true =>
          refine ⟨x, List.getElem?_set_self (by simp only [wipe, List.length_set]; rw [rE.1]; exact hil), acc, s3 _ _ hDj, Nat.lt_of_le_of_lt lj (Nat.lt_of_lt_of_le (by omega) (k_line hlen)), acc ++ [x], accD ++ [dj], upd_same, same_new hD (sj.trans s3), rj.append (.cons rx .nil), ?_, hb⟩
          rw [List.length_append]; simp; exact lj
    · rintro Hn ⟨acc, accD, hDn, sn, rn, ln, run⟩
      rw [List.drop_eq_nil_of_le (by rw [r.length]; exact Nat.le_refl _)] at run
      exact ft _ _ Hn run (s1.trans sn) (.lst (SqL.of hDn) (rn.mono sn))
  | _ => exact hp.elim
/-- [elt for x in iter if ..], flat items, as a value -/
theorem pd_lcF (i : Nat) {x : Str} {elt iter : Expr} {ifs : List Expr} {scope : Scope} {p : Pos} {Ti Te : DT} {Tt : DB} (hi : PD X cl iter Ti) (hN : X.N.Nodup)
    (ht : ∀ (s : Shared) (H : Hp) (C : Addr) (cc : List (Str × Addr)) (fp : List Addr), PDTs (X.blk s H scope (compEnvC scope cc C X.env) fp) cl ifs Tt)
    (he : ∀ (s : Shared) (H : Hp) (C : Addr) (cc : List (Str × Addr)) (fp : List Addr), PD (X.blk s H scope (compEnvC scope cc C X.env) fp) cl elt Te)
    (ok : blkC X.N X.env.scope scope [(x, i)] = true := by first | rfl | with_unfolding_all rfl | decide +kernel) (hx : X.N[i]? = some x := by rfl) (hl : (relabel scope X.env).names.lookup x = some .local := by rfl) (hc : X.calm = true := by rfl) (hs : ∀ v, foldedSetIterable iter X.env v = pure v := by intro _; rfl) :
    PD X cl (.ListComp elt [⟨.Name x p, iter, ifs, 0⟩] scope pos) (dLcF i Ti Tt Te) := by
  obtain ⟨ti, i1, i2⟩ := hi
  exact ⟨_, pe_lc (own := [(x, i)]) hc hN (pi_list i1) (blkOk_by ok) (fun s H C cc fp => pg_name hN hx (.inl hl) (.inr hl)) (tt := ttOf X.K cl Tt) (te := tOf X.K cl Te) (fun s H C cc fp => ht s H C cc fp) (fun s H C cc fp => (he s H C cc fp).te) hs, lcF_read i2⟩
/-- y = [elt for x in iter if ..] on one line, flat items -/
theorem pds_setLcF (j i : Nat) {x y : Str} {elt iter : Expr} {ifs : List Expr} {scope : Scope} {p py spos : Pos} {Ti Te : DT} {Tt : DB} (hi : PD X cl iter Ti) (hN : X.N.Nodup)
    (ht : ∀ (s : Shared) (H : Hp) (C : Addr) (cc : List (Str × Addr)) (fp : List Addr), PDTs (X.blk s H scope (compEnvC scope cc C X.env) fp) cl ifs Tt)
    (he : ∀ (s : Shared) (H : Hp) (C : Addr) (cc : List (Str × Addr)) (fp : List Addr), PD (X.blk s H scope (compEnvC scope cc C X.env) fp) cl elt Te)
    (ok : blkC X.N X.env.scope scope [(x, i)] = true := by first | rfl | with_unfolding_all rfl | decide +kernel) (hx : X.N[i]? = some x := by rfl) (hl : (relabel scope X.env).names.lookup x = some .local := by rfl) (hc : X.calm = true := by rfl) (hs : ∀ v, foldedSetIterable iter X.env v = pure v := by intro _; rfl)
    (hy : X.N[j]? = some y := by rfl) (hyl : X.env.scope.names.lookup y = some .local := by rfl) (hk : X.env.scope.kind = .function := by rfl) (hln : (py.line == pos.line) = true := by rfl) (ha : (scope.names.any fun (n, k) => n == y && (k == .local || k == .cell)) = false := by first | rfl | with_unfolding_all rfl | decide +kernel) :
    PDS X cl (.Assign [.Name y py] (.ListComp elt [⟨.Name x p, iter, ifs, 0⟩] scope pos) spos) (dSet j (dLcF i Ti Tt Te)) := by
  obtain ⟨ti, i1, i2⟩ := hi
  refine ⟨_, ps_setLc (own := [(x, i)]) hc hN hy hyl (sw_true hk hyl hln ha) (pi_list i1) (blkOk_by ok) (fun s H C cc fp => pg_name hN hx (.inl hl) (.inr hl)) (tt := ttOf X.K cl Tt) (te := tOf X.K cl Te) (fun s H C cc fp => ht s H C cc fp) (fun s H C cc fp => (he s H C cc fp).te) hs, fun ρ N R σ H E h rE f => ?_⟩
  exact lcF_read i2 ρ _ σ H _ h rE fun d v H' hp s rv => f.1 _ _ H' hp s ((rE.mono s).set j rv)
/-- y = [x for x in iter if ..] on one line -/
theorem pds_setLcV (j i : Nat) {x y : Str} {iter : Expr} {ifs : List Expr} {scope : Scope} {p p2 py spos : Pos} {Ti : DT} {Tt : DB} (hi : PD X cl iter Ti) (hN : X.N.Nodup)
    (ht : ∀ (s : Shared) (H : Hp) (C : Addr) (cc : List (Str × Addr)) (fp : List Addr), PDTs (X.blk s H scope (compEnvC scope cc C X.env) fp) cl ifs Tt)
    (ok : blkC X.N X.env.scope scope [(x, i)] = true := by first | rfl | with_unfolding_all rfl | decide +kernel) (hx : X.N[i]? = some x := by rfl) (hl : (relabel scope X.env).names.lookup x = some .local := by rfl) (hc : X.calm = true := by rfl) (hs : ∀ v, foldedSetIterable iter X.env v = pure v := by intro _; rfl)
    (hy : X.N[j]? = some y := by rfl) (hyl : X.env.scope.names.lookup y = some .local := by rfl) (hk : X.env.scope.kind = .function := by rfl) (hln : (py.line == pos.line) = true := by rfl) (ha : (scope.names.any fun (n, k) => n == y && (k == .local || k == .cell)) = false := by first | rfl | with_unfolding_all rfl | decide +kernel)
    (hd : (x == ("__debug__" : Str)) = false := by decide) (hcd : (x == ("__classdict__" : Str)) = false := by decide) :
    PDS X cl (.Assign [.Name y py] (.ListComp (.Name x p2) [⟨.Name x p, iter, ifs, 0⟩] scope pos) spos) (dSet j (fun ρ P => i < ρ.length ∧ dLcV i Ti Tt ρ P)) := by
  obtain ⟨ti, i1, i2⟩ := hi
  refine ⟨_, ps_setLc (own := [(x, i)]) hc hN hy hyl (sw_true hk hyl hln ha) (pi_list i1) (blkOk_by ok) (fun s H C cc fp => pg_name hN hx (.inl hl) (.inr hl)) (tt := ttOf X.K cl Tt) (te := tVar i) (fun s H C cc fp => ht s H C cc fp) (fun s H C cc fp => pe_var hx (.inl hl) hd hcd) hs, fun ρ N R σ H E h rE f => ?_⟩
  exact lcV_read i2 ρ _ σ H _ h.2 rE h.1 fun d v H' hp s rv => f.1 _ _ H' hp s ((rE.mono s).set j rv)
end
end DD

set_option Elab.async false
set_option linter.all false
set_option maxRecDepth 100000
namespace DD
open PySem PySem.Spec PyProof.Rows L2
/-! ### a class of the text whose __init__ stores flat values into self -/
def putD (f : Str) (d : D) : List (Str × D) → List (Str × D)
  | [] => [(f, d)]
  | (g, x) :: r => if g = f then (g, d) :: r else (g, x) :: putD f d r
def flatF (gs : List (Str × D)) : Bool := gs.all fun p => flatD p.2
theorem RepF.put {K : Frag} {cl : ClM} {H : Hp} {f : Str} {v : V} {d : D} (r : Rep K cl H v d) : ∀ {fs : List (Str × V)} {gs : List (Str × D)}, RepF K cl H fs gs → RepF K cl H (putF f v fs) (putD f d gs)
  | _, _, .nil => .cons r .nil
  | _, _, .cons (f := g) (vs := fs) (ds := gs) a b => by
    unfold putF putD
    by_cases e : g = f
    · rw [if_pos e, if_pos e]; exact .cons r b
    · rw [if_neg e, if_neg e]; exact .cons a (RepF.put r b)
theorem flat_put {f : Str} {d : D} (h : flatD d = true) : ∀ {gs : List (Str × D)}, flatF gs = true → flatF (putD f d gs) = true
  | [], _ => by simp [putD, flatF, h]
  | (g, x) :: r, q => by
    unfold flatF at q ⊢
    rw [List.all_cons, Bool.and_eq_true] at q
    unfold putD
    by_cases e : g = f
    · rw [if_pos e, List.all_cons, h, q.2]; rfl
    · rw [if_neg e, List.all_cons, q.1]
      have := flat_put (f := f) h (gs := r) q.2
      unfold flatF at this
      rw [this]; rfl
theorem RepF.any {K : Frag} {cl : ClM} {H H' : Hp} : ∀ {fs : List (Str × V)} {gs : List (Str × D)}, RepF K cl H fs gs → flatF gs = true → RepF K cl H' fs gs
  | _, _, .nil, _ => .nil
  | _, _, .cons a b, h => by
    unfold flatF at h
    rw [List.all_cons, Bool.and_eq_true] at h
    exact .cons (a.any h.1) (RepF.any b h.2)
theorem RepF.len {K : Frag} {cl : ClM} {H : Hp} : ∀ {fs : List (Str × V)} {gs : List (Str × D)}, RepF K cl H fs gs → fs.length = gs.length
  | _, _, .nil => rfl
  | _, _, .cons a b => by simp only [List.length_cons]; rw [RepF.len b]
abbrev DMk := List D → (List (Str × D) → Prop) → Prop
/-- what stands within an __init__ -/
structure IRep (K : Frag) (cl : ClM) (c : Str) (p dx : Addr) (H : Hp) (σ : L2.St) (gs : List (Str × D)) (ρ : En) : Prop where
  self : σ[0]? = some (some (.ref p))
  obj : ∃ fs, H p = some (.ins (cl c) dx fs) ∧ RepF K cl H fs gs
  flat : flatF gs = true
  len : σ.length = ρ.length
  env : ∀ (i : Nat) (d : D), ρ[i + 1]? = some (some d) → flatD d = true ∧ ∃ v, σ[i + 1]? = some (some v) ∧ Rep K cl H v d
def withSelf (c : Str) (gs : List (Str × D)) (ρ : En) : En := ρ.set 0 (some (.obj c gs))
theorem IRep.repE {K : Frag} {cl : ClM} {c : Str} {p dx : Addr} {H : Hp} {σ : L2.St} {gs : List (Str × D)} {ρ : En} (I : IRep K cl c p dx H σ gs ρ) : RepE K cl H σ (withSelf c gs ρ) := by
  refine ⟨by unfold withSelf; rw [List.length_set]; exact I.len, fun i d h => ?_⟩
  unfold withSelf at h
  cases i with
  | zero =>
    have h0 : 0 < ρ.length := by rw [← I.len]; exact (List.getElem?_eq_some_iff.mp I.self).1
    rw [List.getElem?_set_self h0] at h
    cases h
    obtain ⟨fs, h1, h2⟩ := I.obj
    exact ⟨_, I.self, .obj h1 h2⟩
  | succ i =>
    rw [List.getElem?_set_ne (by omega)] at h
    exact (I.env i d h).2
/-- within an __init__: the wanted end over the fields and the names -/
abbrev DI := (List (Str × D) → En → Prop) → List (Str × D) → En → Prop
def PDIs (X : Cx) (cl : ClM) (c : Str) (sts : List Stmt) (T : DI) : Prop := ∃ t, PSs X sts t ∧ ∀ p dx N gs ρ σ H (E : Ends), T N gs ρ → IRep X.K cl c p dx H σ gs ρ →
  (∀ gs' ρ' σ' H', N gs' ρ' → IRep X.K cl c p dx H' σ' gs' ρ' → (∀ b o, H b = some o → b ≠ p → H' b = some o) → E.nx σ' H') → t E σ H
section
variable {X : Cx} {cl : ClM} {c : Str} {pos : Pos}
def iNil : DI := fun N gs ρ => N gs ρ
theorem pdi_nil : PDIs X cl c [] iNil := ⟨_, pss_nil, fun p dx N gs ρ σ H E h I f => f gs ρ σ H h I fun _ _ e _ => e⟩
def iSet (i : Nat) (T : DT) (c : Str) (U : DI) : DI := fun N gs ρ => T (withSelf c gs ρ) fun d => flatD d = true ∧ U N gs (ρ.set (i + 1) (some d))
theorem IRep.mono {K : Frag} {p dx : Addr} {H H' : Hp} {σ : L2.St} {gs : List (Str × D)} {ρ : En} (I : IRep K cl c p dx H σ gs ρ) (s : Same H H') : IRep K cl c p dx H' σ gs ρ :=
  ⟨I.self, let ⟨fs, h1, h2⟩ := I.obj; ⟨fs, s _ _ h1, h2.mono s⟩, I.flat, I.len, fun i d h => let ⟨h1, v, h2, h3⟩ := I.env i d h; ⟨h1, v, h2, h3.mono s⟩⟩
theorem pdi_set (i : Nat) {x : Str} {e : Expr} {rest : List Stmt} {T : DT} {U : DI} {pos' : Pos} (he : PD X cl e T) (hr : PDIs X cl c rest U) (hN : X.N.Nodup) (hi : X.N[i + 1]? = some x := by rfl) (hx : Loc X.env.scope x := by exact Or.inl rfl) (hs : swapsWith e (some (.Name x pos')) pos.line X.env = pure false := by rfl)
    (hf : X.fn x = true ∨ X.env.scope.names.lookup x = some .local := by first | exact .inl rfl | exact .inr rfl) : PDIs X cl c (.Assign [.Name x pos'] e pos :: rest) (iSet i T c U) := by
  obtain ⟨t, a1, a2⟩ := he
  obtain ⟨u, b1, b2⟩ := hr
  refine ⟨_, pss_cons (ps_set hN hi hx a1 hs hf) b1, fun p dx N gs ρ σ H E h I f => ?_⟩
  refine a2 _ _ σ H _ h I.repE fun d v H' hp s rv => ?_
  have I1 := I.mono s
  refine b2 p dx N gs _ _ H' E hp.2 ⟨?_, I1.obj, I1.flat, by rw [List.length_set, List.length_set]; exact I1.len, fun j e hj => ?_⟩ fun gs' ρ' σ' H2 hn I2 k => f gs' ρ' σ' H2 hn I2 fun b o e hb => k b o (s b o e) hb
  · rw [List.getElem?_set_ne (by omega)]; exact I.self
  · by_cases hij : i = j
    · subst hij
      by_cases hl : i + 1 < ρ.length
      · rw [List.getElem?_set_self hl] at hj
        cases hj
        exact ⟨hp.1, v, List.getElem?_set_self (by rw [I.len]; exact hl), rv⟩
      · rw [List.getElem?_eq_none (by rw [List.length_set]; omega)] at hj; cases hj
    · rw [List.getElem?_set_ne (by omega)] at hj ⊢
      exact I1.env j e hj
def iFld (f : Str) (T : DT) (c : Str) (U : DI) : DI := fun N gs ρ => gs.length < 100 ∧ T (withSelf c gs ρ) fun d => flatD d = true ∧ U N (putD f d gs) ρ
theorem pdi_fld {f x : Str} {e : Expr} {rest : List Stmt} {T : DT} {U : DI} {p1 p2 : Pos} (he : PD X cl e T) (hr : PDIs X cl c rest U) (hc : Cls X.K (cl c)) (hn : NoAttr X.K (cl c) f) (hN : X.N[0]? = some x := by rfl) (hv : Vis X.env.scope x := by exact Or.inl rfl) (hd : (x == ("__debug__" : Str)) = false := by decide)
    (hcd : (x == ("__classdict__" : Str)) = false := by decide) (hs : swapsWith e (some (.Attribute (.Name x p1) f p2)) pos.line X.env = pure false := by rfl) : PDIs X cl c (.Assign [.Attribute (.Name x p1) f p2] e pos :: rest) (iFld f T c U) := by
  obtain ⟨t, a1, a2⟩ := he
  obtain ⟨u, b1, b2⟩ := hr
  refine ⟨_, pss_cons (ps_fld (pe_var (i := 0) hN hv hd hcd) a1 hs) b1, fun p dx N gs ρ σ H E h I ft => ?_⟩
  refine a2 _ _ σ H _ h.2 I.repE fun d v H' hp s rv => ?_
  have I1 := I.mono s
  obtain ⟨fs, h1, h2⟩ := I1.obj
  refine ⟨.ref p, I.self, p, cl c, dx, fs, rfl, h1, hc, hn, (by rw [h2.len]; exact Nat.lt_trans h.1 (by decide)), ?_⟩
  refine b2 p dx N (putD f d gs) ρ σ _ E hp.2 ⟨I.self, ⟨_, upd_same, ?_⟩, flat_put hp.1 I.flat, I.len, fun j e hj => ?_⟩ fun gs' ρ' σ' H2 hn' I2 k => ft gs' ρ' σ' H2 hn' I2 fun b o e hb => k b o (by rw [upd_ne hb]; exact s b o e) hb
  · exact (RepF.put rv h2).any (flat_put hp.1 I.flat)
  · obtain ⟨h3, w, h4, h5⟩ := I1.env j e hj
    exact ⟨h3, w, h4, h5.any h3⟩
/-- an __init__'s promise -/
def spI (K : Frag) (cl : ClM) (c : Str) (n : Nat) (C : DMk) : Sp := fun vs H Q _ => ∃ p dx vs' ds P, vs = .ref p :: vs' ∧ vs'.length = n ∧ H p = some (.ins (cl c) dx []) ∧ RepL K cl H vs' ds ∧ ds.all flatD = true ∧ C ds P ∧
  ∀ gs fs H', P gs → flatF gs = true → H' p = some (.ins (cl c) dx fs) → RepF K cl H' fs gs → (∀ b o, H b = some o → b ≠ p → H' b = some o) → Q .non H'
structure MkD (P : Program) (w : World) (K : Frag) (mg : Str → Option Value) (base : Heap) (cl : ClM) (k : Nat) (c : Str) (n : Nat) (C : DMk) : Prop where
  ex : ∃ (f : Addr) (fd : FuncData) (ps : List Str), mg c = some (.ref (cl c)) ∧ Mk K (cl c) f ∧ Binds K fd ps [] ∧ FnOk P w K mg base CX0 k f fd ps (spI K cl c n C)
theorem MkD.mono {P : Program} {w : World} {K : Frag} {mg : Str → Option Value} {base : Heap} {j k : Nat} {n : Nat} {C : DMk} (F : MkD P w K mg base cl j c n C) (h : j ≤ k) : MkD P w K mg base cl k c n C := by
  obtain ⟨f, fd, ps, h1, h2, h3, h4⟩ := F.ex
  exact ⟨f, fd, ps, h1, h2, h3, h4.mono h⟩
theorem pd_make {k : Nat} {n : Nat} {C : DMk} {e : Expr} {es : List Expr} {U : DA} {p : Pos} (F : MkD X.prog X.w X.K X.mg X.base cl k c n C) (hr : Room (k + 1) X.A) (ha : PDA X cl (e :: es) U) (hg : Gl X c := by rfl) (hdb : (c == ("__debug__" : Str)) = false := by decide)
    (he : starEach (e :: es) X.env = (false, eval e X.env) :: starEach es X.env := by rfl) (hpl : (backTo pos (starEach es X.env)).any (·.1) = false := by rfl) :
    PD X cl (.Call (.Name c p) (e :: es) [] pos) (dCall (fun ds P => ds.length = n ∧ ds.all flatD = true ∧ C ds fun gs => P (.obj c gs)) U) := by
  obtain ⟨f, fd, ps, h1, h2, h3, h4⟩ := F.ex
  obtain ⟨t, a1, a2⟩ := ha
  refine ⟨_, pe_make h2 h4 hr hg h1 h3 .nil pass0 a1 hdb he hpl, fun ρ P σ H Q h rE ft => a2 ρ _ σ H _ h rE fun ds vs H' hp s r => fun x dx nx nd hne => ?_⟩
  have s2 : Same H' (upd (upd H' dx (.own x)) x (.ins (cl c) dx [])) := fun b o e => by rw [upd_ne (ne_of_none e nx), upd_ne (ne_of_none e nd)]; exact e
  refine ⟨x, dx, vs, ds, _, by rw [List.append_nil], by rw [r.length]; exact hp.1, upd_same, r.mono s2, hp.2.1, hp.2.2, fun gs fs H2 hP hf ho rf k => ⟨rfl, ?_⟩⟩
  refine ft _ _ H2 hP (s.trans fun b o e => k b o (s2 b o e) (ne_of_none e nx)) (.obj ho rf)
/-- THE RULE for an __init__ -/
theorem initD {P : Program} {w : World} {K : Frag} {mg : Str → Option Value} {base : Heap} {qual x0 : Str} {st : Stmt} {f : Addr} {fd : FuncData} {N ps : List Str} {k : Nat} {C : DMk} (F : Fun K "__init__" qual st f fd) (S : FnScope N (x0 :: ps) (defScope st)) (hm : mg c = some (.ref (cl c))) (M : Mk K (cl c) f) (hb : Binds K fd (x0 :: ps) [])
    (hbody : ∀ (cdv : Value) (A : Around) (outer : List PySem.Env) (s : Shared) (H : Hp) (E : XK), Room k (A.deeper (envOfC qual (defScope st) s.heap.objs.size f cdv)) →
      ∃ T, PDIs (cxOf CX0 P w K mg base N qual (defScope st) f cdv A outer s H E).nox cl c (defBody st) T ∧ ∀ ds Pp, ds.length = ps.length → C ds Pp → T (fun gs _ => Pp gs) [] (none :: (ds.map some ++ List.replicate (N.length - (ps.length + 1)) none))) :
    MkD P w K mg base cl (k + 1) c ps.length C := by
  refine ⟨f, fd, x0 :: ps, hm, M, hb, F.ok S (fun vs H Q E h => ?_) (fun cdv A outer s H vs Q E hr h => ?_)⟩
  · obtain ⟨p, dx, vs', ds, Pp, h1, h2, _⟩ := h
    rw [h1, List.length_cons, List.length_cons, h2]
  · obtain ⟨p, dx, vs', ds, Pp, h1, h2, h3, h4, h5, h6, h7⟩ := h
    subst h1
    obtain ⟨T, ⟨t, t1, t2⟩, hT⟩ := hbody cdv A outer s H E hr
    have e : ds.length = ps.length := by rw [← h4.length]; exact h2
    have hpl : ps.length + 1 ≤ N.length := by have := congrArg List.length S.pre; rw [List.length_take, List.length_cons] at this; omega
    refine ⟨t, t1, t2 p dx _ [] _ _ H _ (hT ds Pp e h6) ⟨rfl, ⟨[], h3, .nil⟩, rfl, ?_, fun i d hd => ?_⟩ fun gs' ρ' σ' H' hp I' kk => ?_⟩
    · unfold L2.start
      simp only [List.length_append, List.length_map, List.length_replicate, List.length_cons]
      omega
    · rw [List.getElem?_cons_succ] at hd
      by_cases hi : i < ds.length
      · rw [List.getElem?_append_left (by simpa using hi), List.getElem?_map] at hd
        obtain ⟨d', q1, q2⟩ := Option.map_eq_some_iff.mp hd
        cases q2
        obtain ⟨v, q3, q4⟩ := h4.get q1
        refine ⟨List.all_eq_true.mp h5 d (List.mem_of_getElem? q1), v, ?_, q4⟩
        unfold L2.start
        rw [List.map_cons, List.cons_append, List.getElem?_cons_succ, List.getElem?_append_left (by simp; omega), List.getElem?_map, q3]; rfl
      · rw [List.getElem?_append_right (by simpa using hi), List.getElem?_replicate] at hd
        split at hd <;> cases hd
    · obtain ⟨fs, o1, o2⟩ := I'.obj
      exact h7 gs' fs H' hp I'.flat o1 o2 kk
end
end DD

set_option Elab.async false
set_option linter.all false
set_option maxRecDepth 100000
set_option maxHeartbeats 4000000
namespace HT
open PySem PyProof.Rows
theorem rcGt_int (A : Around) (s : Shared) (a : Int) (t : Tok) (c : Int) (u : Tok) (prog : Program) (w : World) (E : Value → Shared → Prop) (Q : Value → Shared → Prop) (h : Q (.bool (decide (c < a))) s) :
    wpAny (model prog w) A (richCompare .Gt (.int a t) (.int c u)) Q E s :=
  (PyProof.Rows.gt_int h : wpAny (model prog w) A (compareOp .Gt (.int a t) (.int c u)) Q E s)
section
open PySem.SeqAt
open PySem.AutoSeq1 (wpAny_loadPart')
open PySem.MeetsSeq PySem.MeetsSeq2 PySem.MeetsSeq3
theorem tuple_gt_ints (l b : Addr) (items items2 : Array Value) (n n2 : Nat) (dd dd2 : Option Addr) (sl sl2 : Array (Option Value)) (ns ms : List Int) (hi : IntsAre items.toList ns) (hj : IntsAre items2.toList ms) :
    Meets (Builtin.«tuple.__gt__» ⟨[.ref l, .ref b], []⟩)
      (fun _ R s => s.heap.get? l = some { cls := .type "tuple", dict := dd, data := .seq items n, slots := sl } ∧ s.heap.get? b = some { cls := .type "tuple", dict := dd2, data := .seq items2 n2, slots := sl2 } ∧
        R (.ok (.ret (.bool (lexLt ms ns)))) s) :=
  .of_wp fun prog w A R s h => by
    obtain ⟨hp, g, d, tk, os⟩ := s; obtain ⟨hl, hb, h⟩ := h
    have f2 := AutoSeq1.sub_tuple_tuple
    have z1 : items.size = ns.length := by rw [← hi.length]; simp
    have z2 : items2.size = ms.length := by rw [← hj.length]; simp
    wp_walk using wpAny_loadPart' hl, wpAny_loadPart' hb, wpAny_forIn_list _ (fun rest b s' => b.1 = none ∧ s' = ⟨hp, g, d, tk, os⟩ ∧ ∃ (vs ws : List Value) (ns' ms' : List Int), rest = vs.zip ws ∧
      IntsAre vs ns' ∧ IntsAre ws ms' ∧ ns'.length + items2.size = ms'.length + items.size ∧ R (.ok (.ret (.bool (lexLt ms' ns')))) ⟨hp, g, d, tk, os⟩) _
    case turn =>
      rintro ⟨y, x⟩ rest b s' ⟨hb', rfl, vs, ws, ns', ms', hz, hvi, hwi, hlen, hR⟩
      cases hvi with
      | nil => rw [List.zip_nil_left] at hz; cases hz
      | cons a t hvi' =>
        cases hwi with
        | nil => rw [List.zip_nil_right] at hz; cases hz
        | cons c u hwi' =>
          rw [List.zip_cons_cons] at hz
          injection hz with hyx hrest
          injection hyx with hy hx
          subst hy hx
          rw [lexLt_cons] at hR
          simp only [List.length_cons] at hlen
          obtain ⟨e, he, hiff⟩ := eqAt_int A.in1 ⟨hp, g, d, tk, os⟩ a t c u
          refine wpAny_bind (he prog w _ _ ?_)
          cases e with
          | true =>
            rw [if_pos (hiff.mp rfl).symm] at hR
            wp_walk
            exact ⟨rfl, rfl, _, _, _, _, hrest, hvi', hwi', by omega, hR⟩
          | false =>
            rw [if_neg (fun q => absurd (hiff.mpr q.symm) Bool.false_ne_true)] at hR
            have hri := rcGt_int A.in1 ⟨hp, g, d, tk, os⟩ a t c u prog w
            wp_walk using hri
            exact ⟨_, rfl, by simpa using hR⟩
    case fin =>
      rintro ⟨b1, b2⟩ s' ⟨hb', rfl, vs, ws, ns', ms', hz, hvi, hwi, hlen, hR⟩
      simp only at hb'
      subst hb'
      have hv : lexLt ms' ns' = decide (items2.size < items.size) := by
        cases hvi with
        | nil =>
          cases hwi with
          | nil =>
            simp only [List.length_nil] at hlen
            rw [lexLt_nil_nil]
            exact (decide_eq_false (by omega)).symm
          | cons c u hw =>
            simp only [List.length_nil, List.length_cons] at hlen
            rw [lexLt_cons_nil]
            exact (decide_eq_false (by omega)).symm
        | cons a t hv =>
          cases hwi with
          | nil =>
            simp only [List.length_nil, List.length_cons] at hlen
            rw [lexLt_nil_cons]
            exact (decide_eq_true (by omega)).symm
          | cons c u hw =>
            rw [List.zip_cons_cons] at hz
            cases hz
      rw [hv] at hR
      wp_walk
      exact ⟨_, rfl, by simpa [Builtin.Tuple.tupleCompareSizes] using hR⟩
    case h =>
      exact ⟨rfl, rfl, items.toList, items2.toList, ns, ms, rfl, hi, hj, by omega, h⟩
end
section
variable {prog : Program} {w : World} {A : Around} {E : Value → Shared → Prop} {s : Shared}
theorem gt_tupInts {l b : Addr} {items items2 : Array Value} {ns ms : List Int} {Q : Value → Shared → Prop} (hl : IsTup s.heap l items) (hb : IsTup s.heap b items2) (hi : IntsAre items.toList ns) (hj : IntsAre items2.toList ms)
    (hu : A.units < cLine) (h : Q (.bool (lexLt ms ns)) s) : wpAny (model prog w) A (richCompare .Gt (.ref l) (.ref b)) Q E s := by
  obtain ⟨⟨cls, dd, data, sl⟩, ho, hc, n, hd⟩ := id hl
  obtain ⟨⟨cls2, dd2, data2, sl2⟩, ho2, hc2, n2, hd2⟩ := id hb
  simp only at hc hd hc2 hd2
  subst hc hd hc2 hd2
  exact richCompare_meets_room (op := .Gt) ⟨_, ho, rfl⟩ ⟨_, ho2, rfl⟩ PySem.F.slot_tuple_gt PySem.F.entry_tuple_gt (PySem.F.args_tuple_gt_2 _ _) (tuple_gt_ints l b items items2 n n2 dd dd2 sl sl2 ns ms hi hj)
    ⟨ho, ho2, show Value.bool (lexLt ms ns) ≠ Value.notImplemented ∧ Q (.bool (lexLt ms ns)) s from ⟨(fun x => nomatch x), h⟩⟩ hu
end
end HT

set_option Elab.async false
set_option linter.all false
set_option maxRecDepth 100000
namespace DD
open PySem PySem.Spec PyProof.Rows L2
/-! ### what the module's names stand for -/
def GlK (K : Frag) (cl : ClM) (mg : Str → Option Value) (x : Str) (d : D) : Prop := ∃ v u, mg x = some u ∧ RelV v u ∧ ∀ H, Rep K cl H v d
theorem glk_int {K : Frag} {cl : ClM} {mg : Str → Option Value} {x : Str} {i : Int} {t : Tok} (h : mg x = some (.int i t)) : GlK K cl mg x (.int i) := ⟨.int i, _, h, ⟨t, rfl⟩, fun _ => .int i⟩
theorem glk_str {K : Frag} {cl : ClM} {mg : Str → Option Value} {x y : Str} {t : Tok} (h : mg x = some (.str y t)) : GlK K cl mg x (.str y) := ⟨.str y, _, h, ⟨t, rfl⟩, fun _ => .str y⟩
section
variable {X : Cx} {cl : ClM} {pos : Pos} {a b c : Expr}
theorem pd_globK {x : Str} {d : D} {pos : Pos} (c : GlK X.K cl X.mg x d) (hg : Gl X x := by rfl) (hd : (x == ("__debug__" : Str)) = false := by decide) : PD X cl (.Name x pos) (dC d) := by
  obtain ⟨v, u, h1, h2, h3⟩ := c
  exact ⟨tC v, pe_glob hg h1 h2 hd, fun _ _ _ H _ h _ f => f _ _ H h (Same.refl H) (h3 _)⟩
theorem pd_call0 {k : Nat} {x : Str} {C : DCt} {p : Pos} (F : FnD X.prog X.w X.K X.mg X.base cl k x 0 C) (hr : Room k X.A) (hg : Gl X x := by rfl) (hdb : (x == ("__debug__" : Str)) = false := by decide) :
    PD X cl (.Call (.Name x p) [] [] pos) (dCall (fun ds P => ds.length = 0 ∧ C ds P) dNil) := by
  obtain ⟨f, fd, ps, h1, h2, h3, h4⟩ := F.ex
  refine ⟨_, pe_call0 h4 hr hg h1 h2 h3 .nil pass0 hdb, fun ρ P σ H Q h rE f => ?_⟩
  exact ⟨[], P, rfl, .nil, h.2, f⟩
/-- not, as a value -/
def dNotV (T : DT) : DT := fun ρ P => T ρ fun d => match d with
  | .bl c => P (.bl (!c))
  | _ => False
/-! ### max of a list of ints, list of a tuple -/
def intsOf : List D → Option (List Int)
  | [] => some []
  | .int b :: r => (intsOf r).map (b :: ·)
  | _ => none
theorem RepL.ints {K : Frag} {H : Hp} : ∀ {vs : List V} {ds : List D} {bs : List Int}, RepL K cl H vs ds → intsOf ds = some bs → vs = bs.map V.int
  | _, _, _, .nil, h => by simp [intsOf] at h; subst h; rfl
  | _, _, _, .cons (d := d) (ds := ds) a b, h => by
    cases a with
    | int x =>
      simp only [intsOf] at h
      cases e : intsOf ds with
      | none => rw [e] at h; cases h
      | some r =>
        rw [e] at h
        cases h
        rw [RepL.ints b e]; rfl
    | _ => cases h
end
end DD
namespace DD
open PySem PySem.Spec PyProof.Rows L2
def clOf (K : Frag) : ClM := fun c => match PySem.W.nsIn K mainGlobals c with
  | some (some (.ref a)) => a
  | _ => mainGlobals
/-- THE RULE for the row's own def -/
theorem fnO {P : Program} {w : World} {K : Frag} {mg : Str → Option Value} {base : Heap} {cl : ClM} {x qual : Str} {st : Stmt} {f : Addr} {fd : FuncData} {N ps : List Str} {k : Nat} {C : DCt} (F : Fun K x qual st f fd) (S : FnScope N ps (defScope st))
    (hbody : ∀ (cdv : Value) (A : Around) (outer : List PySem.Env) (s : Shared) (H : Hp) (E : XK), Room k (A.deeper (envOfC qual (defScope st) s.heap.objs.size f cdv)) →
      ∃ T, PDSs (cxOf CX0 P w K mg base N qual (defScope st) f cdv A outer s H E).nox cl (defBody st) T ∧ ∀ ds Pp, ds.length = ps.length → C ds Pp → T (fun _ => Pp .non) Pp (ds.map some ++ List.replicate (N.length - ps.length) none)) :
    FnOk P w K mg base CX0 (k + 1) f fd ps (spD K cl ps.length C) := by
  refine F.ok S (fun vs H Q E h => ?_) (fun cdv A outer s H vs Q E hr h => ?_)
  · obtain ⟨ds, Pp, h1, _⟩ := h
    exact h1
  · obtain ⟨ds, Pp, h1, h2, h3, h4⟩ := h
    obtain ⟨T, ⟨t, t1, t2⟩, hT⟩ := hbody cdv A outer s H E hr
    refine ⟨t, t1, t2 _ _ _ _ _ _ (hT ds Pp (by rw [← h2.length]; exact h1) h3) ?_ ⟨fun ρ σ H' p sm _ => h4 _ _ H' p sm .non, h4⟩⟩
    have := repE_start (N := N) h2
    have e : ds.length = ps.length := by rw [← h2.length]; exact h1
    rw [e] at this
    exact this
/-! short names of the operators' readings -/
abbrev oSub : DO := oI0 fun i j => .int (i - j)
abbrev oMul : DO := oI CMulB fun i j => .int (i * j)
abbrev oDiv : DO := oI CDivB fun i j => .int (i / j)
abbrev oMod : DO := oI (fun _ j => 0 < j) fun i j => .int (i % j)
abbrev oShl : DO := oI CShl fun i j => .int (i * 2 ^ j.toNat)
abbrev oShr : DO := oI (fun _ j => 0 ≤ j) fun i j => .int (i / 2 ^ j.toNat)
abbrev oAndB : DO := oI0 fun i j => .int (Builtin.bitAnd i j)
abbrev oOrB : DO := oI0 fun i j => .int (Builtin.bitOr i j)
abbrev oXorB : DO := oI0 fun i j => .int (Builtin.bitXor i j)
abbrev oPow : DO := oI CPow fun i j => .int (i ^ j.toNat)
abbrev oLt : DO := oI0 fun i j => .bl (decide (i < j))
abbrev oLe : DO := oI0 fun i j => .bl (decide (i ≤ j))
abbrev oGt : DO := oI0 fun i j => .bl (decide (j < i))
abbrev oGe : DO := oI0 fun i j => .bl (decide (j ≤ i))
end DD

set_option Elab.async false
set_option linter.all false
set_option maxRecDepth 100000
namespace DD
open PySem PySem.Spec PyProof.Rows L2
/-! ### a list of the def's own that grows by append -/
structure Own (K : Frag) (cl : ClM) (i : Nat) (p : Addr) (H0 H : Hp) (σ : L2.St) (acc : List D) (ρ : En) : Prop where
  here : σ[i]? = some (some (.ref p))
  lst : ∃ vs, H p = some (.lst vs) ∧ RepL K cl H0 vs acc
  flat : acc.all flatD = true
  new : H0 p = none
  same : Same H0 H
  len : σ.length = ρ.length
  env : ∀ (j : Nat) (d : D), j ≠ i → ρ[j]? = some (some d) → ∃ v, σ[j]? = some (some v) ∧ Rep K cl H0 v d
def withL (i : Nat) (acc : List D) (ρ : En) : En := ρ.set i (some (.lst acc))
def Keep (p : Addr) (H H' : Hp) : Prop := ∀ b o, H b = some o → b ≠ p → H' b = some o
theorem Keep.refl (p : Addr) (H : Hp) : Keep p H H := fun _ _ e _ => e
theorem Keep.trans {p : Addr} {H H1 H2 : Hp} (a : Keep p H H1) (b : Keep p H1 H2) : Keep p H H2 := fun c o e n => b c o (a c o e n) n
theorem Same.keep {p : Addr} {H H' : Hp} (a : Same H H') : Keep p H H' := fun c o e _ => a c o e
section
variable {K : Frag} {cl : ClM} {i : Nat} {p : Addr} {H0 H H' : Hp} {σ : L2.St} {acc : List D} {ρ : En}
theorem Own.repE (O : Own K cl i p H0 H σ acc ρ) : RepE K cl H σ (withL i acc ρ) := by
  refine ⟨by unfold withL; rw [List.length_set]; exact O.len, fun j d h => ?_⟩
  unfold withL at h
  by_cases e : i = j
  · subst e
    have hl : i < ρ.length := by rw [← O.len]; exact (List.getElem?_eq_some_iff.mp O.here).1
    rw [List.getElem?_set_self hl] at h
    cases h
    obtain ⟨vs, h1, h2⟩ := O.lst
    exact ⟨_, O.here, .lst (SqL.of h1) (h2.mono O.same)⟩
  · rw [List.getElem?_set_ne e] at h
    obtain ⟨v, h1, h2⟩ := O.env j d (fun q => e q.symm) h
    exact ⟨v, h1, h2.mono O.same⟩
theorem Own.mono (O : Own K cl i p H0 H σ acc ρ) (s : Same H H') : Own K cl i p H0 H' σ acc ρ :=
  ⟨O.here, let ⟨vs, h1, h2⟩ := O.lst; ⟨vs, s _ _ h1, h2⟩, O.flat, O.new, O.same.trans s, O.len, O.env⟩
theorem Own.set (O : Own K cl i p H0 H σ acc ρ) {j : Nat} (hj : j ≠ i) {v : V} {d : D} (r : Rep K cl H v d) (f : flatD d = true) : Own K cl i p H0 H (σ.set j (some v)) acc (ρ.set j (some d)) := by
  refine ⟨by rw [List.getElem?_set_ne hj]; exact O.here, O.lst, O.flat, O.new, O.same, by rw [List.length_set, List.length_set]; exact O.len, fun k e hk h => ?_⟩
  by_cases q : j = k
  · subst q
    by_cases hl : j < ρ.length
    · rw [List.getElem?_set_self hl] at h
      cases h
      exact ⟨v, List.getElem?_set_self (by rw [O.len]; exact hl), r.any f⟩
    · rw [List.getElem?_eq_none (by rw [List.length_set]; omega)] at h; cases h
  · rw [List.getElem?_set_ne q] at h ⊢
    exact O.env k e hk h
theorem Own.push (O : Own K cl i p H0 H σ acc ρ) {v : V} {d : D} (r : Rep K cl H v d) (f : flatD d = true) {vs : List V} (hv : H p = some (.lst vs)) : Own K cl i p H0 (upd H p (.lst (vs ++ [v]))) σ (acc ++ [d]) ρ := by
  obtain ⟨ws, h1, h2⟩ := O.lst
  rw [hv] at h1
  cases h1
  refine ⟨O.here, ⟨_, upd_same, h2.append (.cons (r.any f) .nil)⟩, by rw [List.all_append, O.flat]; simp [f], O.new, fun b o e => ?_, O.len, O.env⟩
  rw [upd_ne (ne_of_none e O.new)]
  exact O.same b o e
end
abbrev DOw := (List D → En → Prop) → (D → Prop) → List D → En → Prop
section
variable {X : Cx} {cl : ClM} {pos : Pos} {i : Nat} {rest : List Stmt} {U : DOw}
/-! ### a for over reversed(..) that changes no list -/
end
end DD

set_option Elab.async false
set_option linter.all false
set_option maxRecDepth 100000
set_option maxHeartbeats 4000000
namespace DD
open PySem PySem.Spec PyProof.Rows L2
/-! ### max(xs, key = f): a list of one or two items, keys that are pairs of ints -/
section
variable {X : Cx} {cl : ClM} {pins : List (Addr × Obj)} {σ : L2.St} {H : Hp} {s : Shared} {k : Nat} {f : Addr} {fd : FuncData} {ps : List Str} {C : DCt}
theorem keyCall (h4 : FnOk X.prog X.w X.K X.mg X.base CX0 k f fd ps (spD X.K cl 1 C)) (h3 : Binds X.K fd ps []) (hr : Room (k + 1) X.A) (I : Inv X pins σ H s) {v : V} {u : Value} {d : D} {P : D → Prop} {Q : VK}
    (rv : Rep X.K cl H v d) (ru : RelV v u) (hC : C [d] P) (ft : Fit X.K cl H P Q) : wpAny (model X.prog X.w) X.A.in1 (call (.ref f) [u]) (EP X pins σ Q) (fun _ _ => False) s := by
  have hs : spD X.K cl 1 C [v] H Q E0 := ⟨[d], P, rfl, .cons rv .nil, hC, ft⟩
  have hl : ([u] : List Value).length = ps.length := by have := h4.len _ _ _ _ hs; exact this
  have hb := h3 s [u] I.kIn (by simpa using hl)
  refine wpAny_call (codeAny_mono (h4.run X.A.in1 X.stack s H ⟨[u], []⟩ [u] [v] Q E0 hr.in1 I.env0.in1 (by simpa using hb) (.cons ru .nil) hs) fun r s' hq => ?_)
  cases r with
  | error e => exact False.elim hq
  | ok fl =>
    cases fl with
    | ret u => exact I.after hq
    | next => exact False.elim hq
    | brk => exact False.elim hq
    | cont => exact False.elim hq
structure MxS (X : Cx) (pins : List (Addr × Obj)) (σ : L2.St) (H : Hp) (s : Shared) (I S l : Addr) (vs : List V) (j : Nat) (best : Array Value) : Prop where
  inv : Inv X pins σ H s
  lst : SqL X.K H l vs
  fI : FpOk X pins H I
  fS : FpOk X pins H S
  ne : S ≠ I
  it : s.heap.IsListIter I l j
  st : ∃ c, s.heap.get? S = some (seqObj "list" best c)
variable {I S l : Addr} {vs : List V} {j : Nat} {best : Array Value} {R : Result → Shared → Prop}
theorem MxS.neL (M : MxS X pins σ H s I S l vs j best) : l ≠ I := by
  obtain ⟨its, _, ⟨o, n, e, c, _⟩, _⟩ := M.inv.list M.lst
  obtain ⟨o', e', c', _⟩ := M.it
  intro q
  rw [q, e'] at e
  cases e
  rw [c'] at c
  exact absurd c (by decide)
/-- the list is at its end -/
theorem mx_end (hc : X.calm = true) {u kv : Value} (M : MxS X pins σ H s I S l vs vs.length #[u, kv]) (hR : ∀ s', Inv X pins σ H s' → R (.ok (.ret u)) s') :
    codeAny (model X.prog X.w) X.A (.builtin "max.loop" ⟨[.ref I, .ref f, .ref S], []⟩) R s := by
  obtain ⟨its, rv, pl, _⟩ := M.inv.list M.lst
  obtain ⟨c, hS⟩ := M.st
  have W := Walks.list (prog := X.prog) (w := X.w) (A := X.A.in1) (M.inv.ok.hd hc) I l M.neL its.toArray
  have hsz : its.toArray.size = vs.length := by rw [List.size_toArray, rv.length]
  refine codeAny_builtin PySem.F.entry_max_loop ?_
  rw [Around.under_plainId PySem.F.plain_max_loop _]
  show wpAny _ X.A.in1 (seqItems? (.ref S) >>= _) _ _ s
  refine wpAny_bind (wpAny_seqItems hS rfl ?_)
  show wpAny _ X.A.in1 (tryCatch (pyNext (.ref I)) _ >>= _) _ _ s
  refine wpAny_bind (wpAny_tryCatch (W.done s _ _ ⟨by rw [hsz]; exact M.it, pl.isList⟩ fun h' tk' hk' => ?_))
  have hS' := hk' S _ (by simpa using M.ne) hS
  show wpAny _ X.A.in1 (updateSeq S (fun _ => #[]) >>= _) _ _ _
  refine wpAny_bind (wpAny_updateSeq hS' rfl (wpAny_bind (wpAny_letGo (wpAny_pure (hR _ ?_)))))
  have sb := Heap.SameBut.update h' S (Obj.mapSeq fun _ => (#[] : Array Value))
  have I1 : Inv X pins σ H { s with heap := h', toks := tk' } := M.inv.turnedL (ch := [I]) (fun b o hb e => hk' b o hb e) fun b hb => by
    rw [List.mem_singleton] at hb
    subst hb
    exact M.fI
  exact I1.turnedL (t' := tk') (ch := [S]) (fun b o hb e => (sb.2 b (by simpa using hb)).trans e) fun b hb => by
    rw [List.mem_singleton] at hb
    subst hb
    exact M.fS
/-- the next item and its key -/
theorem mx_item (hc : X.calm = true) (h4 : FnOk X.prog X.w X.K X.mg X.base CX0 k f fd ps (spD X.K cl 1 C)) (h3 : Binds X.K fd ps []) (hr : Room (k + 1) X.A) (M : MxS X pins σ H s I S l vs j best) {v : V} {d : D} {a b : Int} (hv : vs[j]? = some v) (rv : Rep X.K cl H v d)
    (hC : C [d] fun t => t = .tup [.int a, .int b]) {B : Type} {cont : Value → Value → Sem B} {alt1 : Value → Sem (Option Value)} {alt2 : Value → Value → Sem Value} {nope : Sem B} {Q : B → Shared → Prop} {E : Value → Shared → Prop}
    (go : ∀ u t H' s', RelV v u → Same H H' → SqT X.K H' t [.int a, .int b] → MxS X pins σ H' s' I S l vs (j + 1) best → wpAny (model X.prog X.w) X.A.in1 (cont u (.ref t)) Q E s') :
    wpAny (model X.prog X.w) X.A.in1 (do
      match ← tryCatch (pyNext (.ref I)) alt1 with
      | none => nope
      | some item => do
        let val ← tryCatch (holding [item] (call (.ref f) [item])) (alt2 item)
        cont item val) Q E s := by
  obtain ⟨its, rvs, pl, _⟩ := M.inv.list M.lst
  obtain ⟨c, hS⟩ := M.st
  have W := Walks.list (prog := X.prog) (w := X.w) (A := X.A.in1) (M.inv.ok.hd hc) I l M.neL its.toArray
  obtain ⟨u, hu, ru⟩ := rvs.get hv
  have hlt : j < its.toArray.size := by rw [List.size_toArray]; exact (List.getElem?_eq_some_iff.mp hu).1
  refine wpAny_bind (wpAny_tryCatch (W.item j s _ _ hlt ⟨M.it, pl.isList⟩ fun x h' tk' hP hst' hk' => ?_))
  have hx : u = x := by
    have : its[j]? = some x := by simpa using hP
    rw [hu] at this
    exact Option.some.inj this
  subst hx
  have hS' := hk' S _ (by simpa using M.ne) hS
  have I1 : Inv X pins σ H { s with heap := h', toks := tk' } := M.inv.turnedL (ch := [I]) (fun b o hb e => hk' b o hb e) fun b hb => by
    rw [List.mem_singleton] at hb
    subst hb
    exact M.fI
  obtain ⟨oI, hI, cI, dI⟩ := hst'.1
  have I2 := I1.pinned (fp := [I, S]) (fun b hb => by
    rw [List.mem_cons, List.mem_singleton] at hb
    rcases hb with rfl | rfl
    · exact M.fI
    · exact M.fS) fun b hb => by
    rw [List.mem_cons, List.mem_singleton] at hb
    rcases hb with rfl | rfl
    · exact ⟨oI, hI, fun z q => by rw [dI] at q; cases q⟩
    · exact ⟨_, hS', fun z q => by cases q⟩
  refine wpAny_bind (wpAny_tryCatch (wpAny_holding (wpAny_mono (keyCall h4 h3 hr I2 rv ru hC (Q := fun y H' => Same H H' ∧ ∃ t, y = .ref t ∧ SqT X.K H' t [.int a, .int b]) fun e y H' he sm ry => ?_) (fun y s2 hy => ?_) fun _ _ z => z.elim)))
  · subst he
    cases ry with
    | tup q r =>
      cases r with
      | cons r1 r =>
        cases r with
        | cons r2 r =>
          cases r
          cases r1
          cases r2
          exact ⟨sm, _, rfl, q⟩
  · obtain ⟨y', H2, I3, ry, sm, t, rfl, qt⟩ := hy
    cases ry
    have pinI := I3.pin (I, oI) (List.mem_append_right _ (List.mem_append_right _ (mem_pinsAt (List.mem_cons_self) hI)))
    have pinS := I3.pin (S, _) (List.mem_append_right _ (List.mem_append_right _ (mem_pinsAt (List.mem_cons_of_mem _ (List.mem_cons_self)) hS')))
    exact go u t H2 s2 ru sm qt ⟨I3.unpinned, sm.seq M.lst, ⟨pinI.2.1, M.fI.2⟩, ⟨pinS.2.1, M.fS.2⟩, M.ne, ⟨oI, pinI.1, cI, dI⟩, ⟨c, pinS.1⟩⟩
/-- the store of the best has a new item -/
theorem MxS.put (M : MxS X pins σ H s I S l vs j best) (nb : Array Value) : MxS X pins σ H { s with heap := s.heap.update S (Obj.mapSeq fun _ => nb) } I S l vs j nb := by
  obtain ⟨c, hS⟩ := M.st
  have sb := Heap.SameBut.update s.heap S (Obj.mapSeq fun _ => nb)
  obtain ⟨oI, hI, cI, dI⟩ := M.it
  refine ⟨M.inv.turnedL (t' := s.toks) (ch := [S]) (fun b o hb e => (sb.2 b (by simpa using hb)).trans e) (fun b hb => by
    rw [List.mem_singleton] at hb
    subst hb
    exact M.fS), M.lst, M.fI, M.fS, M.ne, ⟨oI, (sb.2 I M.ne.symm).trans hI, cI, dI⟩, ⟨_, get?_update_seq hS fun _ => nb⟩⟩
theorem mx_first (hc : X.calm = true) (h4 : FnOk X.prog X.w X.K X.mg X.base CX0 k f fd ps (spD X.K cl 1 C)) (h3 : Binds X.K fd ps []) (hr : Room (k + 1) X.A) (M : MxS X pins σ H s I S l vs j #[]) {v : V} {d : D} {a b : Int} (hv : vs[j]? = some v) (rv : Rep X.K cl H v d)
    (hC : C [d] fun t => t = .tup [.int a, .int b])
    (go : ∀ u t H' s', RelV v u → Same H H' → SqT X.K H' t [.int a, .int b] → MxS X pins σ H' s' I S l vs (j + 1) #[u, .ref t] → codeAny (model X.prog X.w) X.A (.builtin "max.loop" ⟨[.ref I, .ref f, .ref S], []⟩) R s') :
    codeAny (model X.prog X.w) X.A (.builtin "max.loop" ⟨[.ref I, .ref f, .ref S], []⟩) R s := by
  obtain ⟨c, hS⟩ := M.st
  refine codeAny_builtin PySem.F.entry_max_loop ?_
  rw [Around.under_plainId PySem.F.plain_max_loop _]
  show wpAny _ X.A.in1 (seqItems? (.ref S) >>= _) _ _ s
  refine wpAny_bind (wpAny_seqItems hS rfl ?_)
  refine mx_item hc h4 h3 hr M hv rv hC fun u t H' s' ru sm qt M' => ?_
  obtain ⟨c', hS'⟩ := M'.st
  show wpAny _ X.A.in1 (updateSeq S (fun _ => #[u, .ref t]) >>= _) _ _ s'
  refine wpAny_bind (wpAny_updateSeq hS' rfl (wpAny_pure ⟨plainId_quiet PySem.F.plain_max_loop _, ?_⟩))
  exact go u t H' _ ru sm qt (M'.put #[u, .ref t])
theorem mx_next (hc : X.calm = true) (h4 : FnOk X.prog X.w X.K X.mg X.base CX0 k f fd ps (spD X.K cl 1 C)) (h3 : Binds X.K fd ps []) (hr : Room (k + 1) X.A) {ub : Value} {tb : Addr} (M : MxS X pins σ H s I S l vs j #[ub, .ref tb]) {v : V} {d : D} {a b a0 b0 : Int} (hb : SqT X.K H tb [.int a0, .int b0]) (hv : vs[j]? = some v) (rv : Rep X.K cl H v d)
    (hC : C [d] fun t => t = .tup [.int a, .int b])
    (go : ∀ u t H' s' nb, RelV v u → Same H H' → nb = (if HT.lexLt [a0, b0] [a, b] = true then #[u, .ref t] else #[ub, .ref tb]) → MxS X pins σ H' s' I S l vs (j + 1) nb → codeAny (model X.prog X.w) X.A (.builtin "max.loop" ⟨[.ref I, .ref f, .ref S], []⟩) R s') :
    codeAny (model X.prog X.w) X.A (.builtin "max.loop" ⟨[.ref I, .ref f, .ref S], []⟩) R s := by
  obtain ⟨c, hS⟩ := M.st
  refine codeAny_builtin PySem.F.entry_max_loop ?_
  rw [Around.under_plainId PySem.F.plain_max_loop _]
  show wpAny _ X.A.in1 (seqItems? (.ref S) >>= _) _ _ s
  refine wpAny_bind (wpAny_seqItems hS rfl ?_)
  refine mx_item hc h4 h3 hr M hv rv hC fun u t H' s' ru sm qt M' => ?_
  obtain ⟨c', hS'⟩ := M'.st
  obtain ⟨i1, r1, t1, _⟩ := M'.inv.tuple qt
  obtain ⟨i2, r2, t2, _⟩ := M'.inv.tuple (sqT_same sm hb)
  have n1 : IntsAre i1 [a, b] := Vals.ints (ns := [a, b]) r1
  have n2 : IntsAre i2 [a0, b0] := Vals.ints (ns := [a0, b0]) r2
  have hun : X.A.in1.units < cLine := by have := hr.in1.un; omega
  show wpAny _ X.A.in1 (tryCatch (holding [u, .ref t] (richCompare .Gt (.ref t) (.ref tb) >>= _)) _ >>= _) _ _ s'
  refine wpAny_bind (wpAny_tryCatch (wpAny_holding (wpAny_bind (HT.gt_tupInts (by simpa using t1) (by simpa using t2) n1 n2 hun ?_))))
  refine wpAny_bind (wpAny_holding (wpAny_truthy_bool ?_))
  refine wpAny_bind (wpAny_letGo (wpAny_pure ?_))
  by_cases q : HT.lexLt [a0, b0] [a, b] = true
  · rw [q]
    simp only [if_true]
    refine wpAny_bind (wpAny_updateSeq (f := fun _ => #[u, .ref t]) hS' rfl (wpAny_bind (wpAny_letGo ?_)))
    refine wpAny_pure ⟨plainId_quiet PySem.F.plain_max_loop _, ?_⟩
    exact go u t H' _ _ ru sm (by rw [if_pos q]) (M'.put #[u, .ref t])
  · have q' : HT.lexLt [a0, b0] [a, b] = false := by simpa using q
    rw [q']
    simp only [Bool.false_eq_true, if_false]
    refine wpAny_bind (wpAny_letGo ?_)
    refine wpAny_pure ⟨plainId_quiet PySem.F.plain_max_loop _, ?_⟩
    exact go u t H' _ _ ru sm (by rw [if_neg q]) M'
/-- the call -/
theorem call_maxKey (hc : X.calm = true) (h4 : FnOk X.prog X.w X.K X.mg X.base CX0 k f fd ps (spD X.K cl 1 C)) (h3 : Binds X.K fd ps []) (hr : Room (k + 1) X.A) (hI : Inv X pins σ H s) {Q : VK} {E : Value → Shared → Prop} (hl : SqL X.K H l vs)
    (go : ∀ I S s', MxS X pins σ H s' I S l vs 0 #[] → codeAny (model X.prog X.w) X.A (.builtin "max.loop" ⟨[.ref I, .ref f, .ref S], []⟩) (fun r s' => match r with | .ok (.ret v) => EP X pins σ Q v s' | .ok _ => False | .error e => E e s') s') :
    wpAny (model X.prog X.w) X.A (call (.builtin "max") [.ref l] [(Str.ofString "key", .ref f)]) (EP X pins σ Q) E s := by
  obtain ⟨its, rvs, pl, _⟩ := hI.list hl
  have hll : l < s.heap.objs.size := by obtain ⟨_, e, _⟩ := pl.isList; exact Heap.lt_size e
  refine kmk_tree PySem.F.kind_max PySem.F.plain_max PySem.F.entry_max (kmk_max_key _ _) ?_
  show wpAny _ X.A.in1 (Builtin.Builtins.bindParams "max" ["key", "default"] 0 ⟨[], [(Str.ofString "key", .ref f)]⟩ >>= _) _ _ s
  refine wpAny_bind (wpAny_of_eq (show Builtin.Builtins.bindParams "max" ["key", "default"] 0 ⟨[], [(Str.ofString "key", .ref f)]⟩ = pure [some (.ref f), none] from rfl) (wpAny_bind (wpAny_pure (wpAny_bind (wpAny_pyIter_list pl.isList (wpAny_bind (wpAny_newList ?_ (Nat.zero_le _))))))))
  have hname : (toString "max" ++ toString ".loop" : String) = "max.loop" := rfl
  have hS : (s.heap.push { cls := .type "list_iterator", data := .fields #[.ref l, .int 0 0] }).objs.size = s.heap.objs.size + 1 := size_push' ..
  refine wpAny_pure ⟨plainId_quiet PySem.F.plain_max_loop _, ?_⟩
  refine go s.heap.objs.size (s.heap.push { cls := .type "list_iterator", data := .fields #[.ref l, .int 0 0] }).objs.size _ ⟨?_, hl, ?_, ?_, ?_, ?_, ?_⟩
  · exact hI.kept fun b o e => Heap.get?_push_of_some _ (Heap.get?_push_of_some _ e)
  · exact hI.fpOk (Nat.le_refl _) (hI.hok.fresh (Nat.le_refl _))
  · exact hI.fpOk (by rw [hS]; exact Nat.le_succ _) (hI.hok.fresh (by rw [hS]; exact Nat.le_succ _))
  · rw [hS]; exact Nat.succ_ne_self _
  · exact ⟨_, Heap.get?_push_of_some _ (Heap.get?_push_size _ rfl), rfl, rfl⟩
  · exact ⟨0, Heap.get?_push_size _ rfl⟩
end
/-- max(e, key = f) as data -/
def dMaxK (C : DCt) (T : DT) : DT := fun ρ P => T ρ fun d => match d with
  | .lst [x] => ∃ a b : Int, (C [x] fun t => t = .tup [.int a, .int b]) ∧ P x
  | .lst [x, y] => ∃ a b a' b' : Int, (C [x] fun t => t = .tup [.int a, .int b]) ∧ (C [y] fun t => t = .tup [.int a', .int b']) ∧ P (if HT.lexLt [a, b] [a', b'] = true then y else x)
  | _ => False
def mxR (X : Cx) (cl : ClM) (C : DCt) (vs : List V) (H : Hp) (Q : VK) : Prop := ∃ v d P, vs = [v] ∧ Rep X.K cl H v d ∧ (match d with
  | .lst [x] => ∃ a b : Int, (C [x] fun t => t = .tup [.int a, .int b]) ∧ P x
  | .lst [x, y] => ∃ a b a' b' : Int, (C [x] fun t => t = .tup [.int a, .int b]) ∧ (C [y] fun t => t = .tup [.int a', .int b']) ∧ P (if HT.lexLt [a, b] [a', b'] = true then y else x)
  | _ => False) ∧ Fit X.K cl H P Q
theorem pd_maxKey {X : Cx} {cl : ClM} {k : Nat} {x : Str} {C : DCt} {e : Expr} {T : DT} {p p2 p3 pos : Pos} (F : FnD X.prog X.w X.K X.mg X.base cl k x 1 C) (hr : Room (k + 1) X.A) (hm : X.mg "max" = none) (hmb : bootBuiltins "max" = some (.builtin "max")) (he : PD X cl e T) (hg : Gl X "max" := by rfl) (hgx : Gl X x := by rfl) (hdx : (x == ("__debug__" : Str)) = false := by decide)
    (hc : X.calm = true := by rfl) (hs : starEach [e] X.env = (false, eval e X.env) :: starEach [] X.env := by rfl) : PD X cl (.Call (.Name "max" p) [e] [⟨some "key", .Name x p2, p3⟩] pos) (dMaxK C T) := by
  obtain ⟨f, fd, ps, h1, h2, h3, h4⟩ := F.ex
  obtain ⟨t, a1, a2⟩ := he
  refine ⟨fun σ H Q => t σ H fun v H1 => mxR X cl C [v] H1 Q, fun pins s σ H Q I h => ?_, fun ρ P σ H Q h rE ft => a2 ρ _ σ H _ h rE fun d v H1 hp s1 rv => ⟨v, d, P, rfl, rv, hp, ft.from s1⟩⟩
  refine wpAny_Call_Name_kw (ld_blt I hg hm hmb ?_ (by decide) (by decide))
  refine callWith_kw (thn (pa_cons a1 pa_nil hs pos pins s σ H (fun vs H1 => mxR X cl C vs H1 Q) I h) fun us s1 ⟨vs, H1, I1, rus, v, d, P, hv, rv, hp, ft⟩ => ?_) (by rw [hs]; rfl) (by rw [hs]; rfl)
  subst hv
  refine kws_cons (ld_glob I1 hgx h1 (kws_nil ?_) hdx)
  obtain ⟨u, rfl, ru⟩ := rus.one
  cases rv with
  | lst q r =>
    rename_i l vs ds
    cases ru
    show wpAny _ _ (call (.builtin "max") [.ref l] [(Str.ofString "key", .ref f)]) _ _ s1
    refine call_maxKey hc h4 h3 hr I1 q fun J S s2 M => ?_
    cases r with
    | nil => exact hp.elim
    | cons r1 r =>
      cases r with
      | nil =>
        obtain ⟨a, b, hC, hP⟩ := hp
        refine mx_first hc h4 h3 hr M rfl r1 hC fun u tt H2 s3 ru sm qt M2 => ?_
        refine mx_end hc M2 fun s4 I4 => ?_
        exact ⟨_, H2, I4, ru, ft _ _ H2 hP sm (r1.mono sm)⟩
      | cons r2 r =>
        cases r with
        | cons _ _ => exact hp.elim
        | nil =>
          obtain ⟨a, b, a', b', hC, hC', hP⟩ := hp
          refine mx_first hc h4 h3 hr M rfl r1 hC fun u tt H2 s3 ru sm qt M2 => ?_
          refine mx_next hc h4 h3 hr M2 qt rfl (r2.mono sm) hC' fun u' t' H3 s4 nb ru' sm' hnb M3 => ?_
          by_cases z : HT.lexLt [a, b] [a', b'] = true
          · rw [if_pos z] at hnb hP
            subst hnb
            exact mx_end hc M3 fun s5 I5 => ⟨_, H3, I5, ru', ft _ _ H3 hP (sm.trans sm') ((r2.mono sm).mono sm')⟩
          · rw [if_neg z] at hnb hP
            subst hnb
            exact mx_end hc M3 fun s5 I5 => ⟨_, H3, I5, ru, ft _ _ H3 hP (sm.trans sm') ((r1.mono sm).mono sm')⟩
  | _ => exact hp.elim
end DD

namespace DD
open PySem
theorem len_us0 {us : List Value} (h : us.length = 0) : us = [] := by
  match us, h with
  | [], _ => exact rfl
theorem len_us1 {us : List Value} (h : us.length = 1) : ∃ a0, us = [a0] := by
  match us, h with
  | [a0], _ => exact ⟨a0, rfl⟩
theorem len_us2 {us : List Value} (h : us.length = 2) : ∃ a0 a1, us = [a0, a1] := by
  match us, h with
  | [a0, a1], _ => exact ⟨a0, a1, rfl⟩
theorem len_us3 {us : List Value} (h : us.length = 3) : ∃ a0 a1 a2, us = [a0, a1, a2] := by
  match us, h with
  | [a0, a1, a2], _ => exact ⟨a0, a1, a2, rfl⟩
theorem len_us4 {us : List Value} (h : us.length = 4) : ∃ a0 a1 a2 a3, us = [a0, a1, a2, a3] := by
  match us, h with
  | [a0, a1, a2, a3], _ => exact ⟨a0, a1, a2, a3, rfl⟩
theorem len_us5 {us : List Value} (h : us.length = 5) : ∃ a0 a1 a2 a3 a4, us = [a0, a1, a2, a3, a4] := by
  match us, h with
  | [a0, a1, a2, a3, a4], _ => exact ⟨a0, a1, a2, a3, a4, rfl⟩
theorem len_us6 {us : List Value} (h : us.length = 6) : ∃ a0 a1 a2 a3 a4 a5, us = [a0, a1, a2, a3, a4, a5] := by
  match us, h with
  | [a0, a1, a2, a3, a4, a5], _ => exact ⟨a0, a1, a2, a3, a4, a5, rfl⟩
end DD

section
set_option Elab.async false
set_option linter.all false
set_option maxRecDepth 100000
set_option maxHeartbeats 2000000
namespace L2
open PySem PySem.Spec PyProof.Rows
open PySem.W (WData Codec OpenSpec Well WellAll ReadsW ReadsAllW)
/-! ### an answer as data -/
mutual
/-- x stands for the datum d, lists and tuples all the way -/
inductive Dw (K : PySem.W.Frag) (H : Hp) : V → WData → Prop
  | non : Dw K H .non .none
  | bl (b : Bool) : Dw K H (.bl b) (.bool b)
  | int (i : Int) : Dw K H (.int i) (.int i)
  | str (x : Str) : Dw K H (.str x) (.str x)
  | byt (b : Array UInt8) : Dw K H (.byt b) (.bytes b.toList)
  | lst {a : Addr} {xs : List V} {ds : List WData} : SqL K H a xs → DwAll K H xs ds → Dw K H (.ref a) (.list ds)
  | tup {a : Addr} {xs : List V} {ds : List WData} : SqT K H a xs → DwAll K H xs ds → Dw K H (.ref a) (.tuple ds)
inductive DwAll (K : PySem.W.Frag) (H : Hp) : List V → List WData → Prop
  | nil : DwAll K H [] []
  | cons {v : V} {vs : List V} {d : WData} {ds : List WData} : Dw K H v d → DwAll K H vs ds → DwAll K H (v :: vs) (d :: ds)
end
theorem dw_ints {K : PySem.W.Frag} {H : Hp} : ∀ ns : List Int, DwAll K H (ns.map V.int) (ns.map WData.int)
  | [] => .nil
  | n :: r => .cons (.int n) (dw_ints r)
section
variable {P : Program} {w : World} {K : PySem.W.Frag} {H : Hp} {h : Heap} {R : PySem.W.WRecords} {cl : Str → Option Addr}
theorem sqL_at {a : Addr} {xs : List V} (hok : HOk P w H h) (KX : K.In h) (q : SqL K H a xs) : ∃ (its : List Value) (o : Obj) (n : Nat), Vals xs its ∧ h.get? a = some o ∧ o.cls = .type "list" ∧ o.data = .seq its.toArray n := by
  rcases q with q | ⟨o, its, n, e, hc, _, hd, _, hv⟩
  · obtain ⟨_, its, n, hv, e⟩ := (show ObjOk P w H h a (.lst xs) from q.ok hok)
    exact ⟨its, _, n, hv, e, rfl, rfl⟩
  · exact ⟨its.toList, o, n, hv, KX _ _ e, hc, by simp [hd]⟩
theorem sqT_at {a : Addr} {xs : List V} (hok : HOk P w H h) (KX : K.In h) (q : SqT K H a xs) : ∃ (its : List Value) (o : Obj) (n : Nat), Vals xs its ∧ h.get? a = some o ∧ o.cls = .type "tuple" ∧ o.data = .seq its.toArray n := by
  rcases q with q | ⟨o, its, n, e, hc, hd, _, hv⟩
  · obtain ⟨_, its, hv, o, e, hc, n, hd⟩ := (show ObjOk P w H h a (.tup xs) from q.ok hok)
    exact ⟨its, o, n, hv, e, hc, hd⟩
  · exact ⟨its.toList, o, n, hv, KX _ _ e, hc, by simp [hd]⟩
mutual
theorem Dw.reads (hok : HOk P w H h) (KX : K.In h) : ∀ (d : WData) (v : V) (u : Value), Dw K H v d → RelV v u → ∃ as, ReadsW R cl h u d as
  | .none, _, _, x, r => by
    cases x
    cases r
    exact ⟨_, ReadsW.none⟩
  | .bool b, _, _, x, r => by
    cases x
    cases r
    exact ⟨_, ReadsW.bool b⟩
  | .int i, _, _, x, r => by
    cases x
    obtain ⟨t, rfl⟩ := r
    exact ⟨_, ReadsW.int i t⟩
  | .str s, _, _, x, r => by
    cases x
    obtain ⟨t, rfl⟩ := r
    exact ⟨_, ReadsW.str s t⟩
  | .bytes b, _, _, x, r => by
    cases x
    obtain ⟨t, rfl⟩ := r
    exact ⟨_, ReadsW.bytes _ t⟩
  | .list ds, _, _, x, r => by
    cases x with
    | lst hs ha =>
      cases r
      obtain ⟨its, o, n, rv, ho, hc, hd⟩ := sqL_at hok KX hs
      obtain ⟨as, hr⟩ := Dw.readsAll hok KX ds _ its ha rv
      exact ⟨_, ReadsW.list ho hc hd hr⟩
  | .tuple ds, _, _, x, r => by
    cases x with
    | tup hs ha =>
      cases r
      obtain ⟨its, o, n, rv, ho, hc, hd⟩ := sqT_at hok KX hs
      obtain ⟨as, hr⟩ := Dw.readsAll hok KX ds _ its ha rv
      exact ⟨_, ReadsW.tuple ho hc hd hr⟩
  | .float _, _, _, x, _ => by cases x
  | .dict _, _, _, x, _ => by cases x
  | .bytearray _, _, _, x, _ => by cases x
  | .set _, _, _, x, _ => by cases x
  | .frozenset _, _, _, x, _ => by cases x
  | .obj _ _, _, _, x, _ => by cases x
theorem Dw.readsAll (hok : HOk P w H h) (KX : K.In h) : ∀ (ds : List WData) (vs : List V) (us : List Value), DwAll K H vs ds → Vals vs us → ∃ as, ReadsAllW R cl h us ds as
  | [], _, _, x, r => by
    cases x
    cases r
    exact ⟨_, ReadsAllW.nil⟩
  | d :: ds, _, _, x, r => by
    cases x with
    | cons h1 h2 =>
      cases r with
      | cons r1 r2 =>
        obtain ⟨as, q1⟩ := Dw.reads hok KX d _ _ h1 r1
        obtain ⟨bs, q2⟩ := Dw.readsAll hok KX ds _ _ h2 r2
        exact ⟨_, ReadsAllW.cons q1 q2⟩
end
end
/-! ### the arguments -/
mutual
/-- data that a codec tells -/
def plW : WData → Bool
  | .none => true
  | .bool _ => true
  | .int _ => true
  | .str _ => true
  | .bytes _ => true
  | .list xs => plWs xs
  | .tuple xs => plWs xs
  | _ => false
def plWs : List WData → Bool
  | [] => true
  | x :: r => plW x && plWs r
end
theorem plWs_map {α : Type} {f : α → WData} (h : ∀ a, plW (f a) = true) : ∀ l : List α, plWs (l.map f) = true
  | [] => rfl
  | x :: r => by
    show (plW (f x) && plWs (r.map f)) = true
    rw [h x, plWs_map h r] <;> rfl
theorem pl_enc : ∀ (c : Codec) (a : c.denote), plW (c.enc a) = true
  | .unit, _ => rfl
  | .bool, _ => rfl
  | .int _ _, _ => rfl
  | .nat _ _, _ => rfl
  | .u8, _ => rfl
  | .bytes _ _, _ => rfl
  | .text _ _ _ _, _ => rfl
  | .list _ _ c, a => plWs_map (fun x => pl_enc c x) a
  | .pair c d, a => by
    show (plW (c.enc a.1) && (plW (d.enc a.2) && true)) = true
    rw [pl_enc c a.1, pl_enc d a.2] <;> rfl
  | .triple c d e, a => by
    show (plW (c.enc a.1) && (plW (d.enc a.2.1) && (plW (e.enc a.2.2) && true))) = true
    rw [pl_enc c a.1, pl_enc d a.2.1, pl_enc e a.2.2] <;> rfl
  | .option c, none => rfl
  | .option c, some x => pl_enc c x
theorem pl_encAll : ∀ (cs : List Codec) (a : Codec.denoteAll cs), plWs (Codec.encAll cs a) = true
  | [], _ => rfl
  | c :: cs, a => by
    show (plW (c.enc a.1) && plWs (Codec.encAll cs a.2)) = true
    rw [pl_enc c a.1, pl_encAll cs a.2] <;> rfl
theorem weight_mem : ∀ {xs : List WData} {d : WData}, d ∈ xs → d.weight ≤ WData.weightAll xs
  | [], d, h => absurd h (by simp)
  | x :: r, d, h => by
    show d.weight ≤ x.weight + 1 + WData.weightAll r
    rcases List.mem_cons.mp h with e | m
    · rw [e]
      omega
    · have z := weight_mem m
      omega
def toV : Value → V
  | .none => .non
  | .bool b => .bl b
  | .int i _ => .int i
  | .str x _ => .str x
  | .bytes b _ => .byt b
  | .ref a => .ref a
  | _ => .non
/-- a value of the arguments, its objects among A -/
def OkU (A : List Addr) : Value → Prop
  | .none => True
  | .bool _ => True
  | .int _ _ => True
  | .str _ _ => True
  | .bytes _ _ => True
  | .ref a => a ∈ A
  | _ => False
theorem OkU.mono {A B : List Addr} (h : ∀ a ∈ A, a ∈ B) : ∀ {u : Value}, OkU A u → OkU B u := fun {u} x => by
  cases u with
  | ref a => exact h a x
  | none => trivial
  | bool b => trivial
  | int i t => trivial
  | str s t => trivial
  | bytes b t => trivial
  | _ => exact False.elim x
theorem relV_toV {A : List Addr} {u : Value} (x : OkU A u) : RelV (toV u) u := by
  cases u with
  | ref a => rfl
  | none => rfl
  | bool b => rfl
  | int i t => exact ⟨t, rfl⟩
  | str s t => exact ⟨t, rfl⟩
  | bytes b t => exact ⟨t, rfl⟩
  | _ => exact False.elim x
theorem vals_toV {A : List Addr} : ∀ {vs : List Value}, (∀ u ∈ vs, OkU A u) → Vals (vs.map toV) vs
  | [], _ => .nil
  | u :: r, h => .cons (relV_toV (h u (List.mem_cons_self ..))) (vals_toV fun x hx => h x (List.mem_cons_of_mem _ hx))
/-- an object of the arguments -/
def ArgOb (h : Heap) (A : List Addr) (a : Addr) : Prop := ∃ vs : List Value, vs.length ≤ sizeLine ∧ (∀ u ∈ vs, OkU A u) ∧
  (h.get? a = some { cls := .type "list", data := .seq vs.toArray } ∨ h.get? a = some { cls := .type "tuple", data := .seq vs.toArray })
theorem ArgOb.mono {h : Heap} {A B : List Addr} {a : Addr} (k : ∀ a ∈ A, a ∈ B) (x : ArgOb h A a) : ArgOb h B a := by
  obtain ⟨vs, h1, h2, h3⟩ := x
  exact ⟨vs, h1, fun u hu => (h2 u hu).mono k, h3⟩
theorem wellAll_len {P : Params} {h : Heap} : ∀ {vs : List Value} {ds : List WData}, WellAll P h vs ds → vs.length = ds.length
  | _, _, .nil => rfl
  | _, _, .cons _ b => by
    show _ + 1 = _ + 1
    rw [wellAll_len b]
theorem well_list {P : Params} {h : Heap} {v : Value} {ds : List WData} (x : Well P h v (.list ds)) : ∃ (a : Addr) (vs : List Value), v = .ref a ∧ h.get? a = some { cls := .type "list", data := .seq vs.toArray } ∧ WellAll P h vs ds := by
  cases x with
  | list ho hall => exact ⟨_, _, rfl, ho, hall⟩
theorem well_tuple {P : Params} {h : Heap} {v : Value} {ds : List WData} (x : Well P h v (.tuple ds)) : ∃ (a : Addr) (vs : List Value), v = .ref a ∧ h.get? a = some { cls := .type "tuple", data := .seq vs.toArray } ∧ WellAll P h vs ds := by
  cases x with
  | tuple ho hall => exact ⟨_, _, rfl, ho, hall⟩
theorem well_cons {P : Params} {h : Heap} {us : List Value} {d : WData} {ds : List WData} (x : WellAll P h us (d :: ds)) : ∃ (v : Value) (vs : List Value), us = v :: vs ∧ Well P h v d ∧ WellAll P h vs ds := by
  cases x with
  | cons a b => exact ⟨_, _, rfl, a, b⟩
theorem line_of {n : Nat} (h : n ≤ 1048576) : n ≤ sizeLine := Nat.le_trans h (by decide)
section
variable {P : Params} {h : Heap}
mutual
theorem area_one : ∀ (d : WData) (v : Value), Well P h v d → plW d = true → d.weight ≤ 1048576 → ∃ A : List Addr, OkU A v ∧ ∀ a ∈ A, ArgOb h A a
  | .none, _, x, _, _ => by
    cases x
    exact ⟨[], trivial, fun a m => absurd m (by simp)⟩
  | .bool b, _, x, _, _ => by
    cases x
    exact ⟨[], trivial, fun a m => absurd m (by simp)⟩
  | .int i, _, x, _, _ => by
    cases x
    exact ⟨[], trivial, fun a m => absurd m (by simp)⟩
  | .str s, _, x, _, _ => by
    cases x
    exact ⟨[], trivial, fun a m => absurd m (by simp)⟩
  | .bytes b, _, x, _, _ => by
    cases x
    exact ⟨[], trivial, fun a m => absurd m (by simp)⟩
  | .list ds, _, x, p, z => by
    obtain ⟨a, vs, rfl, ho, hall⟩ := well_list x
    have z2 : WData.weightAll ds ≤ 1048576 := z
    obtain ⟨A, h1, h2⟩ := area_all ds _ hall p fun d hd => Nat.le_trans (weight_mem hd) z2
    have k : ∀ b ∈ A, b ∈ a :: A := fun b hb => List.mem_cons_of_mem _ hb
    refine ⟨a :: A, List.mem_cons_self .., fun b hb => ?_⟩
    rcases List.mem_cons.mp hb with e | m
    · rw [e]
      exact ⟨vs, line_of (by rw [wellAll_len hall]; exact Nat.le_trans (PySem.W.length_le_weightAllW ds) z2), fun u hu => (h1 u hu).mono k, .inl ho⟩
    · exact (h2 b m).mono k
  | .tuple ds, _, x, p, z => by
    obtain ⟨a, vs, rfl, ho, hall⟩ := well_tuple x
    have z2 : WData.weightAll ds ≤ 1048576 := z
    obtain ⟨A, h1, h2⟩ := area_all ds _ hall p fun d hd => Nat.le_trans (weight_mem hd) z2
    have k : ∀ b ∈ A, b ∈ a :: A := fun b hb => List.mem_cons_of_mem _ hb
    refine ⟨a :: A, List.mem_cons_self .., fun b hb => ?_⟩
    rcases List.mem_cons.mp hb with e | m
    · rw [e]
      exact ⟨vs, line_of (by rw [wellAll_len hall]; exact Nat.le_trans (PySem.W.length_le_weightAllW ds) z2), fun u hu => (h1 u hu).mono k, .inr ho⟩
    · exact (h2 b m).mono k
  | .float _, _, _, p, _ => Bool.noConfusion (show false = true from p)
  | .dict _, _, _, p, _ => Bool.noConfusion (show false = true from p)
  | .bytearray _, _, _, p, _ => Bool.noConfusion (show false = true from p)
  | .set _, _, _, p, _ => Bool.noConfusion (show false = true from p)
  | .frozenset _, _, _, p, _ => Bool.noConfusion (show false = true from p)
  | .obj _ _, _, _, p, _ => Bool.noConfusion (show false = true from p)
theorem area_all : ∀ (ds : List WData) (vs : List Value), WellAll P h vs ds → plWs ds = true → (∀ d ∈ ds, d.weight ≤ 1048576) → ∃ A : List Addr, (∀ u ∈ vs, OkU A u) ∧ ∀ a ∈ A, ArgOb h A a
  | [], _, x, _, _ => by
    cases x
    exact ⟨[], fun u m => absurd m (by simp), fun a m => absurd m (by simp)⟩
  | d :: ds, _, x, p, z => by
    obtain ⟨v, vs, rfl, x1, x2⟩ := well_cons x
    have q : plW d = true ∧ plWs ds = true := Bool.and_eq_true_iff.mp p
    obtain ⟨A, a1, a2⟩ := area_one d v x1 q.1 (z d (List.mem_cons_self ..))
    obtain ⟨B, b1, b2⟩ := area_all ds vs x2 q.2 fun e he => z e (List.mem_cons_of_mem _ he)
    have kA : ∀ b ∈ A, b ∈ A ++ B := fun b hb => List.mem_append.mpr (.inl hb)
    have kB : ∀ b ∈ B, b ∈ A ++ B := fun b hb => List.mem_append.mpr (.inr hb)
    refine ⟨A ++ B, fun u hu => ?_, fun b hb => ?_⟩
    · rcases List.mem_cons.mp hu with e | m
      · rw [e]
        exact a1.mono kA
      · exact (b1 u m).mono kB
    · rcases List.mem_append.mp hb with m | m
      · exact (a2 b m).mono kA
      · exact (b2 b m).mono kB
end
end
/-- what is tracked of an argument's object -/
def hoOf (o : Obj) : Option HO := match o.data with
  | .seq vs _ => if (o.cls == Value.type "list") = true then some (.frz o (.lst (vs.toList.map toV))) else some (.frz o (.tup (vs.toList.map toV)))
  | _ => none
def argH (K : PySem.W.Frag) (h : Heap) (A : List Addr) : Hp := fun b => if b ∈ A then (if (K.lookup b).isNone = true then (h.get? b).bind hoOf else none) else none
/-- nothing is tracked but what is known to the object -/
def OnlyF (H : Hp) : Prop := ∀ b, H b = none ∨ ∃ o u, H b = some (.frz o u)
theorem hoOf_lst (vs : List Value) : hoOf { cls := .type "list", data := .seq vs.toArray } = some (.frz { cls := .type "list", data := .seq vs.toArray } (.lst (vs.map toV))) := by
  show (if (Value.type "list" == Value.type "list") = true then some (HO.frz { cls := .type "list", data := .seq vs.toArray } (.lst (vs.toArray.toList.map toV))) else some (HO.frz { cls := .type "list", data := .seq vs.toArray } (.tup (vs.toArray.toList.map toV)))) = _
  rw [if_pos (beq_self_eq_true _)]
theorem hoOf_tup (vs : List Value) : hoOf { cls := .type "tuple", data := .seq vs.toArray } = some (.frz { cls := .type "tuple", data := .seq vs.toArray } (.tup (vs.map toV))) := by
  show (if (Value.type "tuple" == Value.type "list") = true then some (HO.frz { cls := .type "tuple", data := .seq vs.toArray } (.lst (vs.toArray.toList.map toV))) else some (HO.frz { cls := .type "tuple", data := .seq vs.toArray } (.tup (vs.toArray.toList.map toV)))) = _
  rw [if_neg (by decide)]
section
variable {P : Program} {w : World} {K : PySem.W.Frag} {h : Heap} {A : List Addr}
theorem argH_at {b : Addr} {o : Obj} (hb : b ∈ A) (hk : K.lookup b = none) (e : h.get? b = some o) : argH K h A b = hoOf o := by
  unfold argH
  rw [if_pos hb, hk, if_pos (show (none : Option Obj).isNone = true from rfl), e] <;> rfl
theorem of_argH {b : Addr} {u : HO} (q : argH K h A b = some u) : b ∈ A ∧ K.lookup b = none := by
  unfold argH at q
  by_cases hb : b ∈ A
  · rw [if_pos hb] at q
    cases hk : K.lookup b with
    | none => exact ⟨hb, rfl⟩
    | some o =>
      rw [hk, if_neg (by simp)] at q
      cases q
  · rw [if_neg hb] at q
    cases q
/-- what stands tracked -/
theorem argH_is (ar : ∀ a ∈ A, ArgOb h A a) {b : Addr} {u : HO} (q : argH K h A b = some u) : K.lookup b = none ∧ ∃ vs : List Value, vs.length ≤ sizeLine ∧ (∀ u ∈ vs, OkU A u) ∧
    ((h.get? b = some { cls := .type "list", data := .seq vs.toArray } ∧ u = .frz { cls := .type "list", data := .seq vs.toArray } (.lst (vs.map toV))) ∨
     (h.get? b = some { cls := .type "tuple", data := .seq vs.toArray } ∧ u = .frz { cls := .type "tuple", data := .seq vs.toArray } (.tup (vs.map toV)))) := by
  obtain ⟨hb, hk⟩ := of_argH q
  obtain ⟨vs, h1, h2, h3⟩ := ar b hb
  refine ⟨hk, vs, h1, h2, ?_⟩
  rcases h3 with e | e
  · rw [argH_at hb hk e, hoOf_lst] at q
    exact .inl ⟨e, (Option.some.inj q).symm⟩
  · rw [argH_at hb hk e, hoOf_tup] at q
    exact .inr ⟨e, (Option.some.inj q).symm⟩
theorem argH_only (ar : ∀ a ∈ A, ArgOb h A a) : OnlyF (argH K h A) := fun b => by
  cases q : argH K h A b with
  | none => exact .inl rfl
  | some u =>
    obtain ⟨_, vs, _, _, ⟨_, e⟩ | ⟨_, e⟩⟩ := argH_is ar q
    · exact .inr ⟨_, _, by rw [e]⟩
    · exact .inr ⟨_, _, by rw [e]⟩
theorem argH_ok (ar : ∀ a ∈ A, ArgOb h A a) : HOk P w (argH K h A) h := fun b u q => by
  obtain ⟨_, vs, h1, h2, ⟨e, rfl⟩ | ⟨e, rfl⟩⟩ := argH_is ar q
  · exact ⟨e, by rw [List.length_map]; exact h1, vs, _, vals_toV h2, e⟩
  · exact ⟨e, by rw [List.length_map]; exact h1, vs, vals_toV h2, _, e, rfl, _, rfl⟩
theorem seq_inj {c c' : Value} {vs us : List Value} (e : (some { cls := c, data := .seq vs.toArray } : Option Obj) = some { cls := c', data := .seq us.toArray }) : c = c' ∧ vs = us := by
  have e1 := Option.some.inj e
  have e2 : c = c' := congrArg Obj.cls e1
  have e3 : Data.seq vs.toArray = Data.seq us.toArray := congrArg Obj.data e1
  injection e3 with e4
  refine ⟨e2, ?_⟩
  have e5 := congrArg Array.toList e4
  simpa using e5
/-- a list argument -/
theorem argL (KX : K.In h) (ar : ∀ a ∈ A, ArgOb h A a) {a : Addr} {vs : List Value} (ha : a ∈ A) (e : h.get? a = some { cls := .type "list", data := .seq vs.toArray }) : (∀ u ∈ vs, OkU A u) ∧ SqL K (argH K h A) a (vs.map toV) := by
  obtain ⟨us, h1, h2, h3⟩ := ar a ha
  have hu : us = vs := by
    rcases h3 with q | q
    · rw [e] at q
      exact (seq_inj q).2.symm
    · rw [e] at q
      exact absurd (Value.type.inj (seq_inj q).1) (by decide)
  subst hu
  refine ⟨h2, ?_⟩
  cases hk : K.lookup a with
  | none => exact .inl (.inr ⟨_, by rw [argH_at ha hk e, hoOf_lst]⟩)
  | some o =>
    have e2 := KX a o hk
    rw [e] at e2
    obtain rfl := Option.some.inj e2
    exact .inr ⟨_, us.toArray, _, hk, rfl, rfl, rfl, by rw [List.size_toArray]; exact h1, by simpa using vals_toV h2⟩
theorem argT (KX : K.In h) (ar : ∀ a ∈ A, ArgOb h A a) {a : Addr} {vs : List Value} (ha : a ∈ A) (e : h.get? a = some { cls := .type "tuple", data := .seq vs.toArray }) : (∀ u ∈ vs, OkU A u) ∧ SqT K (argH K h A) a (vs.map toV) := by
  obtain ⟨us, h1, h2, h3⟩ := ar a ha
  have hu : us = vs := by
    rcases h3 with q | q
    · rw [e] at q
      exact absurd (Value.type.inj (seq_inj q).1) (by decide)
    · rw [e] at q
      exact (seq_inj q).2.symm
  subst hu
  refine ⟨h2, ?_⟩
  cases hk : K.lookup a with
  | none => exact .inl (.inr ⟨_, by rw [argH_at ha hk e, hoOf_tup]⟩)
  | some o =>
    have e2 := KX a o hk
    rw [e] at e2
    obtain rfl := Option.some.inj e2
    exact .inr ⟨_, us.toArray, _, hk, rfl, rfl, by rw [List.size_toArray]; exact h1, by simpa using vals_toV h2⟩
mutual
theorem dw_one {Pm : Params} (KX : K.In h) (ar : ∀ a ∈ A, ArgOb h A a) : ∀ (d : WData) (v : Value), Well Pm h v d → plW d = true → OkU A v → Dw K (argH K h A) (toV v) d
  | .none, _, x, _, _ => by
    cases x
    exact .non
  | .bool b, _, x, _, _ => by
    cases x
    exact .bl b
  | .int i, _, x, _, _ => by
    cases x
    exact .int i
  | .str s, _, x, _, _ => by
    cases x
    exact .str s
  | .bytes b, _, x, _, _ => by
    cases x
    have z := Dw.byt (K := K) (H := argH K h A) b.toArray
    exact z
  | .list ds, _, x, p, hu => by
    obtain ⟨a, vs, rfl, ho, hall⟩ := well_list x
    obtain ⟨h2, hs⟩ := argL KX ar hu ho
    exact .lst hs (dw_all KX ar ds _ hall p h2)
  | .tuple ds, _, x, p, hu => by
    obtain ⟨a, vs, rfl, ho, hall⟩ := well_tuple x
    obtain ⟨h2, hs⟩ := argT KX ar hu ho
    exact .tup hs (dw_all KX ar ds _ hall p h2)
  | .float _, _, _, p, _ => Bool.noConfusion (show false = true from p)
  | .dict _, _, _, p, _ => Bool.noConfusion (show false = true from p)
  | .bytearray _, _, _, p, _ => Bool.noConfusion (show false = true from p)
  | .set _, _, _, p, _ => Bool.noConfusion (show false = true from p)
  | .frozenset _, _, _, p, _ => Bool.noConfusion (show false = true from p)
  | .obj _ _, _, _, p, _ => Bool.noConfusion (show false = true from p)
theorem dw_all {Pm : Params} (KX : K.In h) (ar : ∀ a ∈ A, ArgOb h A a) : ∀ (ds : List WData) (vs : List Value), WellAll Pm h vs ds → plWs ds = true → (∀ u ∈ vs, OkU A u) → DwAll K (argH K h A) (vs.map toV) ds
  | [], _, x, _, _ => by
    cases x
    exact .nil
  | d :: ds, _, x, p, hu => by
    obtain ⟨v, vs, rfl, x1, x2⟩ := well_cons x
    have q : plW d = true ∧ plWs ds = true := Bool.and_eq_true_iff.mp p
    exact .cons (dw_one KX ar d v x1 q.1 (hu _ (List.mem_cons_self ..))) (dw_all KX ar ds vs x2 q.2 fun u m => hu u (List.mem_cons_of_mem _ m))
end
end
/-! ### the call -/
theorem spec_call {P : Program} {w : World} {K : PySem.W.Frag} {mg mb : Str → Option Value} {CX : CXT} {k : Nat} {fa : Addr} {fd : FuncData} {ps : List Str} {sp : Sp} {s₁ : Shared} {vals : List Value} {ds : List WData} {R : PySem.W.WRecords} {cl : Str → Option Addr} {d0 : WData}
    (KX : K.In s₁.heap) (hns : s₁.heap.Ns mainGlobals mg) (hb : s₁.heap.Ns builtinsNs mb) (hbb : ∀ x : Str, x ≠ "__name__" → mb x = bootBuiltins x) (hlim : s₁.heap.NoLimit) (hg : s₁.gens = #[])
    (hwl : WellAll w.params s₁.heap vals ds) (hpl : plWs ds = true) (hwt : ∀ d ∈ ds, d.weight ≤ 1048576) (hr : Room k callerA)
    (F : ∀ base : Heap, K.In base → base.Ns mainGlobals mg → FnOk P w K mg base CX k fa fd ps sp) (hbind : ∀ (s : Shared) (us : List Value), us.length = ps.length → BindsTo s fd ⟨us, []⟩ (ps.zip us)) (hlen : ds.length = ps.length)
    (hsp : ∀ (H : Hp) (xs : List V), OnlyF H → DwAll K H xs ds → sp xs H (fun v H' => Dw K H' v d0) fun _ _ _ => False)
    (hCX : ∀ H e s', CX [] H s₁ (fun _ _ _ => False) e s' → False) :
    codeAny (model P w) callerA (.call (.ref fa) ⟨vals, []⟩) (fun r s' => ∃ u as, r = .ok (.ret u) ∧ ReadsW R cl s'.heap u d0 as ∧ OldK s₁.heap s'.heap ∧ s'.os = s₁.os ∧ AllBare s'.gens) s₁ := by
  obtain ⟨A, ho, ar⟩ := area_all ds vals hwl hpl hwt
  have hO : OnlyF (argH K s₁.heap A) := argH_only ar
  have hok : HOk P w (argH K s₁.heap A) s₁.heap := argH_ok ar
  have hS := dw_all KX ar ds vals hwl hpl ho
  have hV := vals_toV ho
  have hK : ∀ b u, argH K s₁.heap A b = some u → K.lookup b = none := fun b u q => (argH_is ar q).1
  have noA : ∀ {b : Addr} {o : Obj} {es : Array DictEntry} {ep : Nat}, s₁.heap.get? b = some o → o.data = .dict es ep → argH K s₁.heap A b = none := fun {b o es ep} e d => by
    cases q : argH K s₁.heap A b with
    | none => rfl
    | some u =>
      obtain ⟨_, vs, _, _, ⟨e2, _⟩ | ⟨e2, _⟩⟩ := argH_is ar q
      · rw [e2] at e
        cases e
        have d' : Data.seq vs.toArray _ = Data.dict es ep := d
        cases d'
      · rw [e2] at e
        cases e
        have d' : Data.seq vs.toArray _ = Data.dict es ep := d
        cases d'
  generalize argH K s₁.heap A = H at hO hok hS hK noA
  have base_of : ∀ {b : Addr} {o : Obj}, s₁.heap.get? b = some o → H b = none → (hidT s₁.heap H).get? b = some o := fun e n => hidT_get e n
  have nsK : ∀ {b : Addr} {m : Str → Option Value}, s₁.heap.Ns b m → (hidT s₁.heap H).Ns b m := fun {b m} ⟨o, es, ep, e, d, r⟩ => ⟨o, es, ep, base_of e (noA e d), d, r⟩
  have nK : ∀ b o, K.lookup b = some o → H b = none := fun b o e => by
    cases q : H b with
    | none => rfl
    | some u =>
      rw [hK b u q] at e
      cases e
  have hKb : K.In (hidT s₁.heap H) := fun b o e => base_of (KX b o e) (nK b o e)
  have hM : Mod K mg (hidT s₁.heap H) := ⟨hKb, nsK hns, ⟨mb, nsK hb, hbb⟩, let ⟨mc, h1, h2⟩ := hlim; ⟨mc, nsK h1, h2⟩⟩
  have e0 : Env0 P w K mg (hidT s₁.heap H) callerA [] s₁ H := ⟨rfl, hM, fun b o e => of_hidT e, Nat.le_of_eq (hidT_size _ _), trivial, fun b hb => absurd (show b ∈ ([] : List Addr) from hb) (by simp), hok, .of_eq hg⟩
  have hl : vals.length = ps.length := by rw [wellAll_len hwl]; exact hlen
  refine codeAny_mono ((F _ hKb (nsK hns)).run callerA [] s₁ H ⟨vals, []⟩ vals (vals.map toV) _ _ hr e0 (hbind s₁ vals hl) hV (hsp H _ hO hS)) fun r s' x => ?_
  cases r with
  | error e => exact (hCX H e s' x).elim
  | ok fl =>
    cases fl with
    | next => exact False.elim x
    | brk => exact False.elim x
    | cont => exact False.elim x
    | ret u =>
      obtain ⟨v, H', os, bare, un, hok', r', q⟩ := x
      have kept : ∀ b o, s₁.heap.get? b = some o → s'.heap.get? b = some o := fun b o e => by
        cases q2 : H b with
        | none => exact un.keep b o e q2 (by intro z; exact absurd (show b ∈ ([] : List Addr) from z) (by simp)) (by simp)
        | some u2 =>
          rcases hO b with z | ⟨ob, u3, z⟩
          · rw [q2] at z
            cases z
          · have z2 := un.frzs b ob _ z
            obtain ⟨e1, _⟩ := hok b _ z
            obtain ⟨e2, _⟩ := hok' b _ z2
            rw [e] at e1
            cases e1
            exact e2
      have KX' : K.In s'.heap := fun b o e => kept b o (KX b o e)
      obtain ⟨as, hrd⟩ := Dw.reads (R := R) (cl := cl) hok' KX' d0 v u q r'
      exact ⟨u, as, rfl, hrd, OldK.of_keep kept, os, bare⟩
/-! ### the row -/
theorem layable_weight {ds : List WData} (h : WData.layableAll ds = true) : ∀ d ∈ ds, d.weight ≤ 1048576 := fun d hd =>
  (PySem.W.layableW_iff.mp (List.all_eq_true.mp h d hd)).2.2
theorem encAll_len : ∀ (cs : List Codec) (a : Codec.denoteAll cs), (Codec.encAll cs a).length = cs.length
  | [], _ => rfl
  | c :: cs, a => by
    show (Codec.encAll cs a.2).length + 1 = cs.length + 1
    rw [encAll_len cs a.2]
/-- the goal that k_headS leaves (case hc), from the promise of the row's def: whatever the arguments that the codecs let and the row asks for, the def gives what stands for enc (f ..) -/
theorem walk_spec {r : OpenSpec} {k : Nat} {q : Program} {loose : List Str} {XP : (Str → Option Value) → Heap → Prop} {YP : World → Heap → Prop} {d : DefRec} {K : Params → PySem.W.Frag} {CX : World → CXT} {ps : List Str} {sp : World → Sp}
    (hwell : r.wellSaid = true) (hdf : d.params.defaults = []) (hlen : r.args.length = ps.length) (hr : Room k callerA)
    (hY : ∀ (w : World) (h : Heap), YP w h → (K w.params).In h)
    (F : ∀ (w : World) (mg : Str → Option Value) (fa : Addr) (h : Heap), YP w h → (K w.params).In h → h.Ns mainGlobals mg → mg d.name = some (.ref fa) →
      ∃ fd : FuncData, (∀ (s : Shared) (us : List Value), us.length = ps.length → BindsTo s fd ⟨us, []⟩ (ps.zip us)) ∧
        ∀ base : Heap, (K w.params).In base → base.Ns mainGlobals mg → FnOk r.prog w (K w.params) mg base (CX w) k fa fd ps (sp w))
    (hsp : ∀ (w : World) (H : Hp) (xs : List V) (a : Codec.denoteAll r.args), OnlyF H → Codec.withinAll r.args a = true → Codec.app r.args r.asked a = true → DwAll (K w.params) H xs (Codec.encAll r.args a) →
      sp w xs H (fun v H' => Dw (K w.params) H' v (r.ret.enc (Codec.app r.args r.f a))) fun _ _ _ => False)
    (hCX : ∀ (w : World) (H : Hp) (s : Shared) (e : Value) (s' : Shared), CX w [] H s (fun _ _ _ => False) e s' → False) :
    PySem.W.WalkOS q loose XP YP r d [] (fun f vs => PySem.call f vs) := by
  intro w s_0 s₁ mg mb G Y fa o pm cd doc dV kV ho hd hcd hD hmg hg args vals as hpre hlay hrd hwl hlo
  obtain ⟨a, e1, e2⟩ := PySem.W.os_pre_some hpre
  obtain ⟨e3, hwi⟩ := Codec.encAll_of_decAll r.args args a e1
  subst e3
  have KX := hY w _ Y
  obtain ⟨fd, hb, hF⟩ := F w mg fa _ Y KX G.T.g hmg
  refine PySem.W.enter_call (codeAny_mono (spec_call (R := []) (cl := classAt s_0.heap) (d0 := r.ret.enc (Codec.app r.args r.f a)) KX G.T.g G.T.b G.T.builtins G.T.nolimit hg hwl (pl_encAll _ _) (layable_weight hlay) hr hF hb (by rw [encAll_len]; exact hlen)
    (fun H xs hO hS => hsp w H xs a hO hwi e2 hS) fun H e s' => hCX w H s₁ e s') fun r' s' hq => ?_)
  obtain ⟨u, as', rfl, h1, h2, h3, h4⟩ := hq
  exact ⟨.inl ⟨u, _, as', rfl, fun _ => rfl, h1, (OpenSpec.post_iff hwell hwi _ _).mpr rfl, fun z => Bool.noConfusion (show false = true from z)⟩, h2, h3, h4⟩
/-- the same where the promise hangs on the written part alone -/
theorem walk_specK {r : OpenSpec} {k : Nat} {q : Program} {loose : List Str} {XP : (Str → Option Value) → Heap → Prop} {YP : World → Heap → Prop} {d : DefRec} {K : Params → PySem.W.Frag} {CX : CXT} {ps : List Str} {sp : PySem.W.Frag → Sp}
    (hwell : r.wellSaid = true) (hdf : d.params.defaults = []) (hlen : r.args.length = ps.length) (hr : Room k callerA)
    (hY : ∀ (w : World) (h : Heap), YP w h → (K w.params).In h)
    (F : ∀ (w : World) (mg : Str → Option Value) (fa : Addr) (h : Heap), YP w h → (K w.params).In h → h.Ns mainGlobals mg → mg d.name = some (.ref fa) →
      ∃ fd : FuncData, (∀ (s : Shared) (us : List Value), us.length = ps.length → BindsTo s fd ⟨us, []⟩ (ps.zip us)) ∧
        ∀ base : Heap, (K w.params).In base → base.Ns mainGlobals mg → FnOk r.prog w (K w.params) mg base CX k fa fd ps (sp (K w.params)))
    (hsp : ∀ (K : PySem.W.Frag) (H : Hp) (xs : List V) (a : Codec.denoteAll r.args), OnlyF H → Codec.withinAll r.args a = true → Codec.app r.args r.asked a = true → DwAll K H xs (Codec.encAll r.args a) →
      sp K xs H (fun v H' => Dw K H' v (r.ret.enc (Codec.app r.args r.f a))) fun _ _ _ => False)
    (hCX : ∀ (H : Hp) (s : Shared) (e : Value) (s' : Shared), CX [] H s (fun _ _ _ => False) e s' → False) :
    PySem.W.WalkOS q loose XP YP r d [] (fun f vs => PySem.call f vs) :=
  walk_spec (K := K) (CX := fun _ => CX) (sp := fun w => sp (K w.params)) hwell hdf hlen hr hY F (fun w H xs a h1 h2 h3 h4 => hsp (K w.params) H xs a h1 h2 h3 h4) fun _ H s e s' => hCX H s e s'
end L2
-- rests on (row put in by the clerk, for the bench that shows a file only what it spells): KE.SpHead KE.OsShapes
end

set_option Elab.async false
set_option linter.all false
set_option maxRecDepth 100000
namespace MX
open Ew
/-! ### powers of two, logarithms -/
theorem p2pos (n : Nat) : 0 < 2 ^ n := Nat.pow_pos (by decide)
theorem log2_spec {m : Nat} (h : 0 < m) : 2 ^ m.log2 ≤ m ∧ m < 2 ^ (m.log2 + 1) := ⟨Nat.log2_self_le (by omega), Nat.lt_log2_self⟩
theorem log2_of {m n : Nat} (h1 : 2 ^ n ≤ m) (h2 : m < 2 ^ (n + 1)) : m.log2 = n := by
  have h0 : 0 < m := Nat.lt_of_lt_of_le (p2pos n) h1
  have a := log2_spec h0
  have b : n < m.log2 + 1 := (Nat.pow_lt_pow_iff_right (by decide)).mp (Nat.lt_of_le_of_lt h1 a.2)
  have c : m.log2 < n + 1 := (Nat.pow_lt_pow_iff_right (by decide)).mp (Nat.lt_of_le_of_lt a.1 h2)
  omega
theorem log2_mul {m : Nat} (h : 0 < m) (n : Nat) : (m * 2 ^ n).log2 = m.log2 + n := by
  have a := log2_spec h
  refine log2_of ?_ ?_
  · rw [Nat.pow_add]; exact Nat.mul_le_mul_right _ a.1
  · have e : m.log2 + n + 1 = (m.log2 + 1) + n := by omega
    rw [e, Nat.pow_add]; exact Nat.mul_lt_mul_of_pos_right a.2 (p2pos n)
theorem log2_div {m n : Nat} (h : 0 < m) (hn : n ≤ m.log2) : (m / 2 ^ n).log2 = m.log2 - n := by
  have a := log2_spec h
  refine log2_of ?_ ?_
  · rw [Nat.le_div_iff_mul_le (p2pos n), ← Nat.pow_add]
    have e : m.log2 - n + n = m.log2 := by omega
    rw [e]; exact a.1
  · rw [Nat.div_lt_iff_lt_mul (p2pos n), ← Nat.pow_add]
    have e : m.log2 - n + 1 + n = m.log2 + 1 := by omega
    rw [e]; exact a.2
theorem log2_mul2 {a b : Nat} (ha : 0 < a) (hb : 0 < b) : (a * b).log2 = a.log2 + b.log2 ∨ (a * b).log2 = a.log2 + b.log2 + 1 := by
  have x := log2_spec ha
  have y := log2_spec hb
  have l : 2 ^ (a.log2 + b.log2) ≤ a * b := by rw [Nat.pow_add]; exact Nat.mul_le_mul x.1 y.1
  have u : a * b < 2 ^ (a.log2 + b.log2 + 2) := by
    have e : a.log2 + b.log2 + 2 = (a.log2 + 1) + (b.log2 + 1) := by omega
    rw [e, Nat.pow_add]
    exact Nat.mul_lt_mul_of_lt_of_lt x.2 y.2
  by_cases h : a * b < 2 ^ (a.log2 + b.log2 + 1)
  · exact .inl (log2_of l h)
  · exact .inr (log2_of (by omega) u)
theorem div_pos_iff {m n : Nat} (h : 0 < m) : 1 ≤ m / 2 ^ n ↔ n ≤ m.log2 := by
  have a := log2_spec h
  constructor
  · intro q
    have : 2 ^ n ≤ m := by
      rw [Nat.le_div_iff_mul_le (p2pos n)] at q; omega
    have b : 2 ^ n < 2 ^ (m.log2 + 1) := Nat.lt_of_le_of_lt this a.2
    have := (Nat.pow_lt_pow_iff_right (by decide)).mp b
    omega
  · intro q
    rw [Nat.le_div_iff_mul_le (p2pos n)]
    have : 2 ^ n ≤ 2 ^ m.log2 := Nat.pow_le_pow_right (by decide) q
    omega
/-! ### a size of value m 2^k -/
structure Is (x : Size) (m : Nat) (k : Int) : Prop where
  root : x.root = false
  den : 0 < x.den
  eq : x.num * 2 ^ (-k).toNat = m * 2 ^ k.toNat * x.den
theorem over_fst (x : Size) (hr : x.root = false) (u : Int) : (x.over u).1 = x.num * 2 ^ (-u).toNat := by
  unfold Size.over
  simp only [hr]
  by_cases h : 0 ≤ u
  · have e : (-u).toNat = 0 := by omega
    simp [h, e]
  · simp [h]
theorem over_snd (x : Size) (hr : x.root = false) (u : Int) : (x.over u).2 = x.den * 2 ^ u.toNat := by
  unfold Size.over
  simp only [hr]
  by_cases h : 0 ≤ u
  · simp [h]
  · have e : u.toNat = 0 := by omega
    simp [h, e]
theorem over_eq {x : Size} {m : Nat} {k : Int} (I : Is x m k) (u : Int) : (x.over u).1 * 2 ^ (u - k).toNat = m * 2 ^ (k - u).toNat * (x.over u).2 := by
  rw [over_fst x I.root, over_snd x I.root]
  have h := I.eq
  -- both sides times 2^(k⁺ + k⁻)
  apply Nat.eq_of_mul_eq_mul_right (p2pos ((-k).toNat))
  have e1 : x.num * 2 ^ (-u).toNat * 2 ^ (u - k).toNat * 2 ^ (-k).toNat = (x.num * 2 ^ (-k).toNat) * 2 ^ ((-u).toNat + (u - k).toNat) := by
    rw [Nat.pow_add]; simp only [Nat.mul_assoc, Nat.mul_comm, Nat.mul_left_comm]
  have e2 : m * 2 ^ (k - u).toNat * (x.den * 2 ^ u.toNat) * 2 ^ (-k).toNat = m * x.den * 2 ^ ((k - u).toNat + u.toNat + (-k).toNat) := by
    rw [Nat.pow_add, Nat.pow_add]; simp only [Nat.mul_assoc, Nat.mul_comm, Nat.mul_left_comm]
  rw [e1, e2, h]
  have e3 : (k - u).toNat + u.toNat + (-k).toNat = k.toNat + ((-u).toNat + (u - k).toNat) := by omega
  rw [e3, Nat.pow_add 2 k.toNat]
  generalize 2 ^ ((-u).toNat + (u - k).toNat) = zz
  simp only [Nat.mul_assoc, Nat.mul_comm, Nat.mul_left_comm]
theorem over_pos {x : Size} {m : Nat} {k : Int} (I : Is x m k) (u : Int) : 0 < (x.over u).2 := by
  rw [over_snd x I.root]; exact Nat.mul_pos I.den (p2pos _)
/-- the greatest multiple of 2^u not above -/
def fl (m : Nat) (k u : Int) : Nat := if u ≤ k then m * 2 ^ (k - u).toNat else m / 2 ^ (u - k).toNat
def ex (m : Nat) (k u : Int) : Bool := decide (u ≤ k) || m % 2 ^ (u - k).toNat == 0
theorem floorAt_eq {x : Size} {m : Nat} {k : Int} (I : Is x m k) (u : Int) : x.floorAt u = fl m k u := by
  unfold Size.floorAt
  simp only [I.root]
  have h := over_eq I u
  have p := over_pos I u
  show (x.over u).1 / (x.over u).2 = fl m k u
  unfold fl
  by_cases c : u ≤ k
  · rw [if_pos c]
    have e : (u - k).toNat = 0 := by omega
    rw [e] at h
    simp only [Nat.pow_zero, Nat.mul_one] at h
    rw [h, Nat.mul_div_cancel _ p]
  · rw [if_neg c]
    have e : (k - u).toNat = 0 := by omega
    rw [e] at h
    simp only [Nat.pow_zero, Nat.mul_one] at h
    rw [← Nat.mul_div_mul_right _ _ (p2pos (u - k).toNat), h, Nat.mul_comm (x.over u).2, Nat.mul_div_mul_right _ _ p]
theorem exactAt_eq {x : Size} {m : Nat} {k : Int} (I : Is x m k) (u : Int) : x.exactAt u = ex m k u := by
  unfold Size.exactAt
  simp only [I.root, floorAt_eq I]
  have h := over_eq I u
  have p := over_pos I u
  show (fl m k u * (x.over u).2 == (x.over u).1) = ex m k u
  unfold fl ex
  by_cases c : u ≤ k
  · rw [if_pos c]
    have e : (u - k).toNat = 0 := by omega
    rw [e] at h
    simp only [Nat.pow_zero, Nat.mul_one] at h
    rw [h]; simp [c]
  · rw [if_neg c]
    have e : (k - u).toNat = 0 := by omega
    rw [e] at h
    simp only [Nat.pow_zero, Nat.mul_one] at h
    have p2 := p2pos (u - k).toNat
    have key : (m / 2 ^ (u - k).toNat * (x.over u).2 = (x.over u).1) ↔ m % 2 ^ (u - k).toNat = 0 := by
      have dm := Nat.div_add_mod m (2 ^ (u - k).toNat)
      constructor
      · intro q
        rw [← q] at h
        have h2 : (m / 2 ^ (u - k).toNat * 2 ^ (u - k).toNat) * (x.over u).2 = m * (x.over u).2 := by
          rw [← h]; simp only [Nat.mul_assoc, Nat.mul_comm, Nat.mul_left_comm]
        have h3 := Nat.eq_of_mul_eq_mul_right p h2
        rw [Nat.mul_comm] at h3
        omega
      · intro q
        apply Nat.eq_of_mul_eq_mul_right p2
        rw [h]
        have h3 : m / 2 ^ (u - k).toNat * 2 ^ (u - k).toNat = m := by rw [Nat.mul_comm]; omega
        calc m / 2 ^ (u - k).toNat * (x.over u).2 * 2 ^ (u - k).toNat = (m / 2 ^ (u - k).toNat * 2 ^ (u - k).toNat) * (x.over u).2 := by simp only [Nat.mul_assoc, Nat.mul_comm, Nat.mul_left_comm]
          _ = m * (x.over u).2 := by rw [h3]
    have cf : decide (u ≤ k) = false := by simp [c]
    rw [cf, Bool.false_or]
    rw [Bool.eq_iff_iff]
    simpa using key
theorem top_eq {x : Size} {m : Nat} {k : Int} (I : Is x m k) (hm : 0 < m) : x.top = (m.log2 : Int) + k := by
  have hn : 0 < x.num := by
    have h := I.eq
    have : 0 < m * 2 ^ k.toNat * x.den := Nat.mul_pos (Nat.mul_pos hm (p2pos _)) I.den
    rw [← h] at this
    exact Nat.pos_of_mul_pos_right this
  have ge : ∀ u, 1 ≤ x.floorAt u ↔ u ≤ (m.log2 : Int) + k := by
    intro u
    rw [floorAt_eq I]
    unfold fl
    by_cases c : u ≤ k
    · rw [if_pos c]
      have := Nat.mul_pos hm (p2pos (k - u).toNat)
      constructor
      · intro _; omega
      · intro _; omega
    · rw [if_neg c, div_pos_iff hm]
      omega
  have hl : ((x.num.log2 : Nat) : Int) - ((x.den.log2 : Nat) : Int) = (m.log2 : Int) + k ∨ ((x.num.log2 : Nat) : Int) - ((x.den.log2 : Nat) : Int) = (m.log2 : Int) + k + 1 := by
    have h := congrArg Nat.log2 I.eq
    rw [log2_mul hn] at h
    have e : m * 2 ^ k.toNat * x.den = (m * x.den) * 2 ^ k.toNat := by simp only [Nat.mul_assoc, Nat.mul_comm, Nat.mul_left_comm]
    rw [e, log2_mul (Nat.mul_pos hm I.den)] at h
    rcases log2_mul2 hm I.den with q | q <;> rw [q] at h <;> omega
  unfold Size.top
  simp only [I.root, ge, Bool.false_eq_true, if_false]
  rcases hl with q | q <;> rw [q] <;> split <;> try omega
  all_goals (split <;> try omega)
  all_goals (split <;> try omega)
/-! ### roundings -/
/-- which multiple of 2^u the value goes to -/
def up (r : Rounding) (s : Bool) (w rest half : Nat) : Bool := match r with
  | .nearest => decide (half < rest) || (rest == half && w % 2 == 1)
  | .down => s
  | .up => !s
  | .cut => false
def rm (r : Rounding) (s : Bool) (m : Nat) (k u : Int) : Nat :=
  if u ≤ k then m * 2 ^ (k - u).toNat
  else m / 2 ^ (u - k).toNat + (if 0 < m % 2 ^ (u - k).toNat ∧ up r s (m / 2 ^ (u - k).toNat) (m % 2 ^ (u - k).toNat) (2 ^ ((u - k).toNat - 1)) = true then 1 else 0)
theorem rest_of {x : Size} {m : Nat} {k u : Int} (c : k < u) (g0 : x.floorAt u = fl m k u) (g1 : x.floorAt (u - 1) = fl m k (u - 1)) (g2 : x.exactAt u = ex m k u) (g3 : x.exactAt (u - 1) = ex m k (u - 1)) : x.rest u = if m % 2 ^ (u - k).toNat = 0 then 0 else if m % 2 ^ (u - k).toNat < 2 ^ ((u - k).toNat - 1) then 1 else if m % 2 ^ (u - k).toNat = 2 ^ ((u - k).toNat - 1) then 2 else 3 := by
  unfold Size.rest
  rw [g0, g1, g2, g3]
  have c1 : ¬ u ≤ k := by omega
  obtain ⟨n, hn⟩ : ∃ n : Nat, (u - k).toNat = n + 1 := ⟨(u - k).toNat - 1, by omega⟩
  have hn1 : (u - 1 - k).toNat = n := by omega
  have e0 : ex m k u = (m % 2 ^ (n + 1) == 0) := by
    unfold ex; rw [hn]; simp [c1]
  have p := p2pos n
  have dm := Nat.div_add_mod m (2 ^ (n + 1))
  have lt := Nat.mod_lt m (p2pos (n + 1))
  have f1 : fl m k u = m / 2 ^ (n + 1) := by unfold fl; rw [if_neg c1, hn]
  have two : 2 ^ (n + 1) = 2 * 2 ^ n := by rw [Nat.pow_succ]; omega
  have f2 : fl m k (u - 1) = m / 2 ^ n := by
    unfold fl
    by_cases c2 : u - 1 ≤ k
    · have e1 : n = 0 := by omega
      have e2 : (k - (u - 1)).toNat = 0 := by omega
      rw [if_pos c2, e2, e1]; simp
    · rw [if_neg c2, hn1]
  have e3 : ex m k (u - 1) = (m % 2 ^ n == 0) := by
    unfold ex
    by_cases c2 : u - 1 ≤ k
    · have e1 : n = 0 := by omega
      simp [c2, e1, Nat.mod_one]
    · rw [hn1]; simp [c2]
  rw [e0, f1, f2, e3, hn]
  have g : n + 1 - 1 = n := by omega
  rw [g]
  -- m = 2^(n+1) w + ρ
  generalize hw : m / 2 ^ (n + 1) = w at *
  generalize hρ : m % 2 ^ (n + 1) = ρ at *
  have a : m / 2 ^ n = 2 * w + ρ / 2 ^ n := by
    rw [← dm, two]
    have : 2 * 2 ^ n * w + ρ = ρ + 2 ^ n * (2 * w) := by rw [Nat.mul_comm 2 (2 ^ n), Nat.mul_assoc]; omega
    rw [this, Nat.add_mul_div_left _ _ p]; omega
  have b : m % 2 ^ n = ρ % 2 ^ n := by
    rw [← dm, two]
    have : 2 * 2 ^ n * w + ρ = ρ + 2 ^ n * (2 * w) := by rw [Nat.mul_comm 2 (2 ^ n), Nat.mul_assoc]; omega
    rw [this, Nat.add_mul_mod_self_left]
  rw [a, b]
  by_cases z : ρ = 0
  · simp [z]
  · have z1 : (ρ == 0) = false := by simp [z]
    rw [z1]
    simp only [Bool.false_eq_true, if_false, z]
    by_cases l : ρ < 2 ^ n
    · have : ρ / 2 ^ n = 0 := Nat.div_eq_of_lt l
      simp [this, l]
    · have q1 : ρ / 2 ^ n = 1 := by
        have h1 : ρ / 2 ^ n < 2 := by rw [Nat.div_lt_iff_lt_mul p]; omega
        have h2 : 1 ≤ ρ / 2 ^ n := by rw [Nat.le_div_iff_mul_le p]; omega
        omega
      have q2 : ρ % 2 ^ n = ρ - 2 ^ n := by
        have := Nat.div_add_mod ρ (2 ^ n)
        rw [q1] at this; omega
      have q3 : ¬ (2 * w + ρ / 2 ^ n = 2 * w) := by omega
      rw [if_neg q3, q2, if_neg l]
      by_cases q : ρ = 2 ^ n
      · simp [q]
      · have : (ρ - 2 ^ n == 0) = false := by simp; omega
        rw [this]; simp [q]
theorem rest_le {x : Size} {m : Nat} {k u : Int} (I : Is x m k) (c : u ≤ k) : x.rest u = 0 := by
  unfold Size.rest
  rw [exactAt_eq I]
  simp [ex, c]
theorem multiple_of {x : Size} {m : Nat} {k u : Int} (r : Rounding) (s : Bool) (c' : k < u) (g0 : x.floorAt u = fl m k u) (g1 : x.floorAt (u - 1) = fl m k (u - 1)) (g2 : x.exactAt u = ex m k u) (g3 : x.exactAt (u - 1) = ex m k (u - 1)) : x.multiple r s u = rm r s m k u := by
  unfold Size.multiple rm
  rw [g0]
  have c : ¬ u ≤ k := by omega
  rw [rest_of c' g0 g1 g2 g3, if_neg c]
  have f1 : fl m k u = m / 2 ^ (u - k).toNat := by unfold fl; rw [if_neg c]
  rw [f1]
  generalize hw : m / 2 ^ (u - k).toNat = w
  generalize hρ : m % 2 ^ (u - k).toNat = ρ
  generalize hh : 2 ^ ((u - k).toNat - 1) = h
  congr 1
  by_cases z : ρ = 0
  · simp [z, goesUp]
  · have z2 : 0 < ρ := by omega
    simp only [z, if_false, z2, true_and]
    by_cases l : ρ < h
    · have l1 : ¬ h < ρ := by omega
      have l2 : ¬ ρ = h := by omega
      cases r <;> cases s <;> simp [goesUp, up, l, l1, l2]
    · by_cases q : ρ = h
      · cases r <;> cases s <;> simp [goesUp, up, q]
      · have l1 : h < ρ := by omega
        cases r <;> cases s <;> simp [goesUp, up, l, l1, q]
theorem multiple_eq {x : Size} {m : Nat} {k : Int} (I : Is x m k) (r : Rounding) (s : Bool) (u : Int) : x.multiple r s u = rm r s m k u := by
  by_cases c : u ≤ k
  · unfold Size.multiple rm
    rw [floorAt_eq I, rest_le I c, if_pos c]
    simp [goesUp, fl, c]
  · exact multiple_of r s (by omega) (floorAt_eq I u) (floorAt_eq I (u - 1)) (exactAt_eq I u) (exactAt_eq I (u - 1))
end MX

set_option Elab.async false
set_option linter.all false
set_option maxRecDepth 100000
namespace MX
open Ew
/-! ### from a fraction to a size -/
theorem two_mk (k : Int) : two k = mkRat ((2 ^ k.toNat : Nat) : Int) (2 ^ (-k).toNat) := by
  unfold two
  by_cases h : 0 ≤ k
  · have e : (-k).toNat = 0 := by omega
    rw [if_pos h, e, Rat.mkRat_eq_div]
    simp
    grind
  · have e : k.toNat = 0 := by omega
    rw [if_neg h, e, Rat.mkRat_eq_div]
    simp
theorem two_pos (k : Int) : 0 < two k := by
  unfold two
  by_cases h : 0 ≤ k
  · rw [if_pos h]; exact Rat.natCast_pos.mpr (p2pos _)
  · rw [if_neg h]
    have : (0 : Rat) < ((2 ^ (-k).toNat : Nat) : Rat) := Rat.natCast_pos.mpr (p2pos _)
    rw [Rat.lt_div_iff this]
    simp
    decide
theorem is_rat {v : Rat} {n k : Int} (h : v = (n : Rat) * two k) : v.num * ((2 ^ (-k).toNat : Nat) : Int) = n * ((2 ^ k.toNat : Nat) : Int) * (v.den : Int) := by
  have h2 : mkRat v.num v.den = mkRat (n * ((2 ^ k.toNat : Nat) : Int)) (2 ^ (-k).toNat) := by
    rw [Rat.mkRat_self, h, two_mk]
    have : (n : Rat) = mkRat n 1 := by rw [Rat.mkRat_eq_div]; simp; grind
    rw [this, Rat.mkRat_mul_mkRat]; simp
  exact (Rat.mkRat_eq_iff v.den_nz (by have := p2pos (-k).toNat; omega)).mp h2
theorem is_of {v : Rat} {n k : Int} (h : v = (n : Rat) * two k) : Is ⟨v.num.natAbs, v.den, false⟩ n.natAbs k := by
  refine ⟨rfl, Nat.pos_of_ne_zero v.den_nz, ?_⟩
  have e := congrArg Int.natAbs (is_rat h)
  simpa [Int.natAbs_mul, Int.natAbs_pow] using e
theorem rat_zero {v : Rat} {n k : Int} (h : v = (n : Rat) * two k) : v = 0 ↔ n = 0 := by
  rw [h, Rat.mul_eq_zero]
  have := two_pos k
  constructor
  · rintro (q | q)
    · simpa using q
    · rw [q] at this; exact absurd this (by decide)
  · intro q; left; simpa using q
theorem rat_neg {v : Rat} {n k : Int} (h : v = (n : Rat) * two k) : decide (v < 0) = decide (n < 0) := by
  rw [h]
  have := Rat.mul_neg_iff_of_pos_right (a := (n : Rat)) (two_pos k)
  simp only [this, Rat.intCast_neg_iff]
theorem two_add (a b : Int) : two (a + b) = two a * two b := by
  rw [two_mk, two_mk, two_mk, Rat.mkRat_mul_mkRat, Rat.mkRat_eq_iff (by have := p2pos (-(a + b)).toNat; omega) (by have := Nat.mul_pos (p2pos (-a).toNat) (p2pos (-b).toNat); omega)]
  norm_cast
  rw [← Nat.pow_add, ← Nat.pow_add, ← Nat.pow_add, ← Nat.pow_add]
  congr 1
  omega
theorem two_zero : two 0 = 1 := rfl
theorem two_nat (n : Nat) : two n = ((2 ^ n : Nat) : Rat) := by
  unfold two; simp
/-! ### codes -/
def code (f : Format) (x : Float_) : Nat := ((if x.sign = true then 2 ^ f.expBits else 0) + x.exp) * 2 ^ f.fracBits + x.frac
structure Ok (f : Format) (x : Float_) : Prop where
  exp : x.exp < 2 ^ f.expBits
  frac : x.frac < 2 ^ f.fracBits
theorem p_pos (f : Format) : 1 ≤ f.p := by cases f <;> decide
theorem emin_le (f : Format) : f.emin ≤ f.emax := by cases f <;> decide
/-! ### a value brought to a float -/
/-- whole 2^j cut to a whole number -/
def shf (m : Nat) (j : Int) : Nat := if 0 ≤ j then m * 2 ^ j.toNat else m / 2 ^ (-j).toNat
theorem shf_fl (m : Nat) (k u : Int) : shf m (k - u) = fl m k u := by
  unfold shf fl
  by_cases h : u ≤ k
  · have h2 : 0 ≤ k - u := by omega
    rw [if_pos h, if_pos h2]
  · have h2 : ¬ 0 ≤ k - u := by omega
    have e : -(k - u) = u - k := by omega
    rw [if_neg h, if_neg h2, e]
theorem fl_log {m : Nat} {k u : Int} (hm : 0 < m) (h : u ≤ (m.log2 : Int) + k) : 0 < fl m k u ∧ ((fl m k u).log2 : Int) = (m.log2 : Int) + k - u := by
  unfold fl
  by_cases c : u ≤ k
  · rw [if_pos c, log2_mul hm]
    exact ⟨Nat.mul_pos hm (p2pos _), by omega⟩
  · rw [if_neg c]
    have hn : (u - k).toNat ≤ m.log2 := by omega
    rw [log2_div hm hn]
    exact ⟨(div_pos_iff hm).mpr hn, by omega⟩
theorem fl_lt {m : Nat} {k u : Int} {n : Nat} (hm : 0 < m) (h : (m.log2 : Int) + k < u + n) : fl m k u < 2 ^ n := by
  by_cases c : u ≤ (m.log2 : Int) + k
  · obtain ⟨h1, h2⟩ := fl_log hm c
    have := (log2_spec h1).2
    exact Nat.lt_of_lt_of_le this (Nat.pow_le_pow_right (by decide) (by omega))
  · have : fl m k u = 0 := by
      unfold fl
      have c1 : ¬ u ≤ k := by omega
      rw [if_neg c1]
      have := mt (div_pos_iff (n := (u - k).toNat) hm).mp (by omega)
      exact Nat.lt_one_iff.mp (Nat.not_le.mp this)
    rw [this]; exact p2pos n
def expOf (f : Format) (m : Nat) (k : Int) : Nat := if m = 0 then 0 else (max ((m.log2 : Int) + k - f.emin + 1) 0).toNat
def lastOf (f : Format) (m : Nat) (k : Int) : Int := max ((m.log2 : Int) + k) f.emin - (f.p : Int) + 1
theorem make_eq (f : Format) (s : Bool) {m : Nat} (k : Int) (hm : 0 < m) : f.make s m k = ⟨s, expOf f m k, fl m k (lastOf f m k) % 2 ^ f.fracBits⟩ := by
  unfold Format.make
  have hm0 : ¬ m = 0 := by omega
  rw [if_neg hm0]
  show f.of s (fl m k (lastOf f m k)) (lastOf f m k) = _
  unfold Format.of expOf
  rw [if_neg hm0]
  have hp := p_pos f
  by_cases c : f.emin ≤ (m.log2 : Int) + k
  · have hl : lastOf f m k = (m.log2 : Int) + k - (f.p : Int) + 1 := by unfold lastOf; omega
    have g := fl_log (k := k) (u := lastOf f m k) hm (by omega)
    have g1 : ¬ fl m k (lastOf f m k) < 2 ^ (f.p - 1) := by
      have := (log2_spec g.1).1
      have e : (fl m k (lastOf f m k)).log2 = f.p - 1 := by omega
      rw [e] at this; omega
    have g2 : fl m k (lastOf f m k) < 2 ^ f.p := fl_lt (n := f.p) hm (by omega)
    simp only [if_neg g1]
    congr 1
    · omega
    · cases f with
      | extended => exact (Nat.mod_eq_of_lt g2).symm
      | half => rfl
      | single => rfl
      | double => rfl
  · have hl : lastOf f m k = f.emin - (f.p : Int) + 1 := by unfold lastOf; omega
    have g1 : fl m k (lastOf f m k) < 2 ^ (f.p - 1) := fl_lt hm (by omega)
    simp only [if_pos g1]
    congr 1
    · omega
    · cases f with
      | extended =>
        have : fl m k (lastOf .extended m k) < 2 ^ 64 := Nat.lt_trans g1 (by decide)
        exact (Nat.mod_eq_of_lt this).symm
      | half => rfl
      | single => rfl
      | double => rfl
theorem make_zero (f : Format) (s : Bool) (k : Int) : f.make s 0 k = ⟨s, 0, 0⟩ := rfl
theorem exp_bound (f : Format) : f.emax - f.emin + 1 = (2 ^ f.expBits : Nat) - 2 := by cases f <;> decide
theorem expOf_lt (f : Format) {m : Nat} {k : Int} (h : m = 0 ∨ (m.log2 : Int) + k ≤ f.emax) : expOf f m k < 2 ^ f.expBits := by
  unfold expOf
  have b := exp_bound f
  have p : 4 ≤ 2 ^ f.expBits := by cases f <;> decide
  by_cases hm : m = 0
  · rw [if_pos hm]; omega
  · rw [if_neg hm]
    have := h.resolve_left hm
    omega
theorem make_scale (f : Format) (s : Bool) (m c : Nat) (k : Int) : f.make s (m * 2 ^ c) k = f.make s m (k + c) := by
  by_cases hm : m = 0
  · subst hm; simp [make_zero]
  · have h0 : 0 < m := by omega
    have h1 : 0 < m * 2 ^ c := Nat.mul_pos h0 (p2pos c)
    rw [make_eq f s k h1, make_eq f s (k + c) h0]
    have e1 : lastOf f (m * 2 ^ c) k = lastOf f m (k + c) := by
      unfold lastOf; rw [log2_mul h0]; omega
    have e2 : expOf f (m * 2 ^ c) k = expOf f m (k + c) := by
      unfold expOf; rw [if_neg hm, if_neg (by omega), log2_mul h0]; omega
    have e3 : ∀ u : Int, fl (m * 2 ^ c) k u = fl m (k + c) u := by
      intro u
      unfold fl
      by_cases a : u ≤ k
      · have b : u ≤ k + c := by omega
        rw [if_pos a, if_pos b, Nat.mul_assoc, ← Nat.pow_add]
        congr 2; omega
      · rw [if_neg a]
        by_cases b : u ≤ k + c
        · rw [if_pos b]
          have e : c = (k + c - u).toNat + (u - k).toNat := by omega
          conv => lhs; rw [e, Nat.pow_add, ← Nat.mul_assoc]
          rw [Nat.mul_div_cancel _ (p2pos _)]
        · rw [if_neg b]
          have e : (u - k).toNat = (u - (k + c)).toNat + c := by omega
          rw [e, Nat.pow_add, Nat.mul_div_mul_right _ _ (p2pos c)]
    rw [e1, e2, e3]
theorem make_fl (f : Format) (s : Bool) (m : Nat) (k u : Int) (h : ex m k u = true) : f.make s (fl m k u) u = f.make s m k := by
  unfold fl
  by_cases c : u ≤ k
  · rw [if_pos c, make_scale]; congr 1; omega
  · rw [if_neg c]
    have h2 : m % 2 ^ (u - k).toNat = 0 := by simpa [ex, c] using h
    have e : m = m / 2 ^ (u - k).toNat * 2 ^ (u - k).toNat := by
      have := Nat.div_add_mod m (2 ^ (u - k).toNat)
      rw [Nat.mul_comm] at this; omega
    conv => rhs; rw [e]
    rw [make_scale]; congr 1; omega
theorem rm_ex {r : Rounding} {s : Bool} {m : Nat} {k u : Int} (h : ex m k u = true) : rm r s m k u = fl m k u := by
  unfold rm fl
  by_cases c : u ≤ k
  · rw [if_pos c, if_pos c]
  · have h2 : m % 2 ^ (u - k).toNat = 0 := by simpa [ex, c] using h
    rw [if_neg c, if_neg c, h2]; simp
/-- an exact value that the format has -/
theorem rounded_exact (f : Format) (r : Rounding) (s : Bool) {x : Size} {m q : Nat} {k : Int} (I : Is x m k) (hm : 0 < m) (hq : m.log2 < q) (he : (m.log2 : Int) + k ≤ f.emax) (hx : (m.log2 : Int) + k < f.emin → ex m k (f.emin - (q : Int) + 1) = true) :
    f.rounded q r s x = (f.make s m k, 0) := by
  unfold Format.rounded
  simp only [top_eq I hm, multiple_eq I, exactAt_eq I, floorAt_eq I]
  have hu : (m.log2 : Int) + k - (q : Int) + 1 ≤ k := by omega
  have hex : ex m k ((m.log2 : Int) + k - (q : Int) + 1) = true := by simp [ex, hu]
  have hlt : fl m k ((m.log2 : Int) + k - (q : Int) + 1) < 2 ^ q := fl_lt hm (by omega)
  rw [rm_ex hex]
  have hne : ¬ fl m k ((m.log2 : Int) + k - (q : Int) + 1) = 2 ^ q := by omega
  rw [if_neg hne, if_neg (by omega)]
  by_cases c : (m.log2 : Int) + k < f.emin
  · rw [if_pos c, rm_ex (hx c), make_fl _ _ _ _ _ (hx c), hx c]; rfl
  · rw [if_neg c, make_fl _ _ _ _ _ hex, hex]; rfl
theorem ofRat_exact (f : Format) (r : Rounding) (z : Bool) {v : Rat} {n k : Int} {q : Nat} (h : v = (n : Rat) * two k) (hn : n ≠ 0) (hq : n.natAbs.log2 < q) (he : (n.natAbs.log2 : Int) + k ≤ f.emax) (hx : (n.natAbs.log2 : Int) + k < f.emin → ex n.natAbs k (f.emin - (q : Int) + 1) = true) :
    f.ofRat q r z v = (f.make (decide (n < 0)) n.natAbs k, 0) := by
  unfold Format.ofRat
  rw [if_neg (mt (rat_zero h).mp hn), rounded_exact f r _ (is_of h) (by omega) hq he hx, rat_neg h]
theorem ofRat_zero (f : Format) (q : Nat) (r : Rounding) (z : Bool) : f.ofRat q r z 0 = (f.zero z, 0) := rfl
end MX

set_option Elab.async false
set_option linter.all false
set_option maxRecDepth 100000
namespace UX
open PySem PySem.Spec PyProof.Rows L2 DD MX
open Ew (Float_ Format Rounding Kind)
/-! the answer of a call: a list of whole numbers -/
theorem dw_ans {K : Frag} {cl : ClM} {H : Hp} {v : V} {l : List Int} (r : Rep K cl H v (.lst (l.map D.int))) : Dw K H v (.list (l.map PySem.W.WData.int)) := by
  cases r with
  | lst q rr =>
    have e : ∀ {vs : List V} {l : List Int}, RepL K cl H vs (l.map D.int) → vs = l.map V.int := by
      intro vs
      induction vs with
      | nil => intro l h; cases l with | nil => rfl | cons _ _ => cases h
      | cons v vs ih =>
        intro l h
        cases l with
        | nil => cases h
        | cons a l =>
          cases h with
          | cons a b => cases a; rw [ih b]; rfl
    have := e rr
    subst this
    exact .lst q (dw_ints _)
def lst (l : List Int) : D := .lst (l.map D.int)

/-! ### whole numbers as Python's -/
theorem bits_nat (m : Nat) : Builtin.Int.intBits (m : Int) = if m = 0 then 0 else m.log2 + 1 := by
  unfold Builtin.Int.intBits
  by_cases h : m = 0
  · subst h; rfl
  · have : ((m : Int) == 0) = false := by simp; omega
    rw [this, if_neg h]; simp
theorem and_nat (a b : Nat) : Builtin.bitAnd (a : Int) (b : Int) = ((a &&& b : Nat) : Int) := by
  unfold Builtin.bitAnd
  have h1 : (0 : Int) ≤ a := by omega
  have h2 : (0 : Int) ≤ b := by omega
  simp [h1, h2]
theorem or_nat (a b : Nat) : Builtin.bitOr (a : Int) (b : Int) = ((a ||| b : Nat) : Int) := by
  have e : ∀ n : Nat, Builtin.bitNot (n : Int) = -(n : Int) - 1 := fun n => by unfold Builtin.bitNot; omega
  unfold Builtin.bitOr
  rw [e a, e b]
  unfold Builtin.bitAnd
  have h1 : ¬ (0 : Int) ≤ -(a : Int) - 1 := by omega
  have h2 : ¬ (0 : Int) ≤ -(b : Int) - 1 := by omega
  simp only [h1, h2, decide_false]
  have g : ∀ n : Nat, (Builtin.bitNot (-(n : Int) - 1)).toNat = n := fun n => by unfold Builtin.bitNot; omega
  rw [g, g]
  unfold Builtin.bitNot; omega
theorem mask_nat (a n : Nat) : Builtin.bitAnd (a : Int) (((2 ^ n : Nat) : Int) - 1) = ((a % 2 ^ n : Nat) : Int) := by
  have : ((2 ^ n : Nat) : Int) - 1 = ((2 ^ n - 1 : Nat) : Int) := by have := p2pos n; omega
  rw [this, and_nat, Nat.and_two_pow_sub_one_eq_mod]
theorem or_add {a b n : Nat} (h : b < 2 ^ n) : (a * 2 ^ n) ||| b = a * 2 ^ n + b := by
  rw [Nat.mul_comm]; exact (Nat.two_pow_add_eq_or_of_lt h a).symm
theorem ite_i {c : Prop} [Decidable c] {a b : Prop} (h1 : c → a) (h2 : ¬ c → b) : if c then a else b := by
  by_cases h : c
  · rw [if_pos h]; exact h1 h
  · rw [if_neg h]; exact h2 h
/-- a sign -/
def sg (b : Bool) : Int := if b = true then 1 else 0
@[reducible] def Rd (T : DS) (n k : Nat) (C : DCt) : Prop := ∀ (ds : List D) (Pp : D → Prop), ds.length = n → C ds Pp → T (fun _ => Pp .non) Pp (ds.map some ++ List.replicate k none)
@[reducible] def RdI (T : DI) (n k : Nat) (C : DMk) : Prop := ∀ (ds : List D) (Pp : List (Str × D) → Prop), ds.length = n → C ds Pp → T (fun gs _ => Pp gs) [] (none :: (ds.map some ++ List.replicate k none))
/-! ### the formats -/
def fmF (f : Format) : List (Str × D) := [("digits", .int (f.p : Nat)), ("greatest_exponent", .int f.emax), ("least_exponent", .int f.emin), ("significand_places", .int (f.fracBits : Nat)), ("all_exponent_bits", .int ((2 ^ f.expBits - 1 : Nat) : Int)), ("sign_place", .int ((f.fracBits + f.expBits : Nat) : Int))]
def fmD (f : Format) : D := .obj "Format" (fmF f)
theorem lk1 (f : Format) : List.lookup ("digits" : Str) (fmF f) = some (.int (f.p : Nat)) := rfl
theorem lk2 (f : Format) : List.lookup ("greatest_exponent" : Str) (fmF f) = some (.int f.emax) := rfl
theorem lk3 (f : Format) : List.lookup ("least_exponent" : Str) (fmF f) = some (.int f.emin) := rfl
theorem lk4 (f : Format) : List.lookup ("significand_places" : Str) (fmF f) = some (.int (f.fracBits : Nat)) := rfl
theorem lk5 (f : Format) : List.lookup ("all_exponent_bits" : Str) (fmF f) = some (.int ((2 ^ f.expBits - 1 : Nat) : Int)) := rfl
theorem lk6 (f : Format) : List.lookup ("sign_place" : Str) (fmF f) = some (.int ((f.fracBits + f.expBits : Nat) : Int)) := rfl
def C_Format_init : DMk := fun ds P => ∃ f : Format, ds = [.int (f.p : Nat), .int f.emax, .int (f.fracBits : Nat)] ∧ P (fmF f)
def C_extended_format : DCt := fun ds P => ds = [] ∧ P (fmD .extended)
def C_too_many_bits : DCt := fun ds P => ∃ (f : Format) (b : Nat), ds = [fmD f, .int b] ∧ P (.bl (decide (2 ^ (1 + f.expBits + f.fracBits) ≤ b)))
def C_shown_bits : DCt := fun ds P => ∃ (f : Format) (w : Nat), ds = [fmD f, .int w] ∧ P (.int ((w % 2 ^ f.fracBits : Nat) : Int))
def C_joined : DCt := fun ds P => ∃ (f : Format) (s : Bool) (e w : Nat), ds = [fmD f, .int (sg s), .int e, .int w] ∧ e < 2 ^ f.expBits ∧ P (.int (code f ⟨s, e, w % 2 ^ f.fracBits⟩ : Nat))
def C_shifted : DCt := fun ds P => ∃ (m : Nat) (j : Int), ds = [.int m, .int j] ∧ m.log2 ≤ 2 ^ 20 ∧ j ≤ 2 ^ 20 ∧ P (.int (shf m j : Nat))
def C_value_bits : DCt := fun ds P => ∃ (f : Format) (s : Bool) (m : Nat) (k : Int), ds = [fmD f, .int (sg s), .int m, .int k] ∧ m.log2 ≤ 2 ^ 19 ∧ -(2 ^ 19) ≤ k ∧ k ≤ 2 ^ 19 ∧ (m = 0 ∨ (m.log2 : Int) + k ≤ f.emax) ∧ P (.int (code f (f.make s m k) : Nat))
def C_endless_bits : DCt := fun ds P => ∃ (f : Format) (s : Bool), ds = [fmD f, .int (sg s)] ∧ P (.int (code f (f.infinite s) : Nat))
def C_finite_bits : DCt := fun ds P => ∃ (s : Bool) (m : Nat) (k : Int), ds = [.int (sg s), .int m, .int k] ∧ m.log2 ≤ 2 ^ 19 ∧ -(2 ^ 19) ≤ k ∧ k ≤ 2 ^ 19 ∧ (m = 0 ∨ (m.log2 : Int) + k ≤ 16383) ∧ P (.int (code .extended (Format.extended.make s m k) : Nat))
@[reducible] def T_Format_init : DI := (iFld "digits" (dVar 1) "Format"
  (iFld "greatest_exponent" (dVar 2) "Format"
  (iFld "least_exponent" (dOp oSub (dC (.int 1)) (dVar 2)) "Format"
  (iFld "significand_places" (dVar 3) "Format"
  (iFld "all_exponent_bits" (dOp oAdd (dOp oMul (dC (.int 2)) (dVar 2)) (dC (.int 1))) "Format"
  (iFld "sign_place" (dOp oAdd (dVar 3) (dBitLen (dFld (dVar 0) "Format" "all_exponent_bits"))) "Format"
  iNil))))))
@[reducible] def T_extended_format : DS := (dRet (dCall (fun ds P => ds.length = 3 ∧ ds.all flatD = true ∧ C_Format_init ds fun gs => P (.obj "Format" gs)) (dCons (dC (.int 64)) (dCons (dC (.int 16383)) (dCons (dC (.int 64)) dNil)))))
@[reducible] def T_too_many_bits : DS := (dRet (dOp oGt (dOp oShr (dVar 1) (dOp oAdd (dFld (dVar 0) "Format" "sign_place") (dC (.int 1)))) (dC (.int 0))))
@[reducible] def T_shown_bits : DS := (dRet (dOp oAndB (dVar 1) (dOp oSub (dOp oShl (dC (.int 1)) (dFld (dVar 0) "Format" "significand_places")) (dC (.int 1)))))
@[reducible] def T_joined : DS := (dSeq (dSet 4 (dOp oOrB (dOp oShl (dVar 1) (dFld (dVar 0) "Format" "sign_place")) (dOp oShl (dVar 2) (dFld (dVar 0) "Format" "significand_places"))))
  (dRet (dOp oOrB (dVar 4) (dCall (fun ds P => ds.length = 2 ∧ C_shown_bits ds P) (dCons (dVar 0) (dCons (dVar 3) dNil))))))
@[reducible] def T_shifted : DS := (dRet (dIf (dTest (dOp oGe (dVar 1) (dC (.int 0)))) (dOp oShl (dVar 0) (dVar 1)) (dOp oShr (dVar 0) (dNeg (dVar 1)))))
@[reducible] def T_value_bits : DS := (dSeq (dIfS (dTest (dOp oEq (dVar 2) (dC (.int 0)))) (dRet (dCall (fun ds P => ds.length = 4 ∧ C_joined ds P) (dCons (dVar 0) (dCons (dVar 1) (dCons (dC (.int 0)) (dCons (dC (.int 0)) dNil)))))) dNext)
  (dSeq (dSet 4 (dOp oAdd (dOp oSub (dBitLen (dVar 2)) (dC (.int 1))) (dVar 3)))
  (dSeq (dSet 5 (dCall cMax (dCons (dOp oAdd (dOp oSub (dVar 4) (dFld (dVar 0) "Format" "least_exponent")) (dC (.int 1))) (dCons (dC (.int 0)) dNil))))
  (dSeq (dSet 6 (dOp oAdd (dOp oSub (dCall cMax (dCons (dVar 4) (dCons (dFld (dVar 0) "Format" "least_exponent") dNil))) (dFld (dVar 0) "Format" "digits")) (dC (.int 1))))
  (dRet (dCall (fun ds P => ds.length = 4 ∧ C_joined ds P) (dCons (dVar 0) (dCons (dVar 1) (dCons (dVar 5) (dCons (dCall (fun ds P => ds.length = 2 ∧ C_shifted ds P) (dCons (dVar 2) (dCons (dOp oSub (dVar 3) (dVar 6)) dNil))) dNil))))))))))
@[reducible] def T_endless_bits : DS := (dRet (dCall (fun ds P => ds.length = 4 ∧ C_joined ds P) (dCons (dVar 0) (dCons (dVar 1) (dCons (dFld (dVar 0) "Format" "all_exponent_bits") (dCons (dOp oShl (dC (.int 1)) (dOp oSub (dFld (dVar 0) "Format" "digits") (dC (.int 1)))) dNil))))))
@[reducible] def T_finite_bits : DS := (dRet (dCall (fun ds P => ds.length = 4 ∧ C_value_bits ds P) (dCons (dCall (fun ds P => ds.length = 0 ∧ C_extended_format ds P) dNil) (dCons (dVar 0) (dCons (dVar 1) (dCons (dVar 2) dNil))))))
theorem rd_Format_init : RdI T_Format_init 3 0 C_Format_init := by
  intro ds Pp hl h
  obtain ⟨f, rfl, hP⟩ := h
  refine ⟨by decide, rfl, by show 1 < 100; decide, rfl, by show 2 < 100; decide, rfl, by show 3 < 100; decide, rfl, by show 4 < 100; decide, ?_, rfl, by show 5 < 100; decide, rfl, rfl, ?_⟩
  · cases f <;> (show IntMulOk _ _) <;> (unfold IntMulOk; decide)
  · cases f <;> exact hP
theorem rd_extended_format : Rd T_extended_format 0 0 C_extended_format := by
  intro ds Pp hl h
  obtain ⟨rfl, hP⟩ := h
  exact ⟨rfl, rfl, .extended, rfl, hP⟩
theorem ipow (n : Nat) : (2 : Int) ^ n = ((2 ^ n : Nat) : Int) := by simp
theorem shl_ok {m : Nat} {j : Int} (h0 : 0 ≤ j) (h1 : m.log2 ≤ 2 ^ 25) (h2 : j ≤ 2 ^ 25) : CShl (m : Int) j := by
  refine ⟨h0, ?_⟩
  rw [bits_nat]
  split <;> omega
theorem shl_one {j : Int} (h0 : 0 ≤ j) (h2 : j ≤ 2 ^ 25) : CShl 1 j := shl_ok (m := 1) h0 (by decide) h2
theorem shl_sg {s : Bool} {j : Int} (h0 : 0 ≤ j) (h2 : j ≤ 2 ^ 25) : CShl (sg s) j := by
  cases s
  · exact shl_ok (m := 0) h0 (by decide) h2
  · exact shl_ok (m := 1) h0 (by decide) h2
theorem fb_le (f : Format) : f.fracBits ≤ 64 := by cases f <;> decide
theorem eb_le (f : Format) : f.expBits ≤ 15 := by cases f <;> decide
theorem mask_pow (a n : Nat) : Builtin.bitAnd (a : Int) (1 * 2 ^ (n : Int).toNat - 1) = ((a % 2 ^ n : Nat) : Int) := by
  rw [Int.one_mul, Int.toNat_natCast, ipow, mask_nat]
theorem rd_shown_bits : Rd T_shown_bits 2 0 C_shown_bits := by
  intro ds Pp hl h
  obtain ⟨f, w, rfl, hP⟩ := h
  dsimp only [dSeq, dSet, dRet, dIfS, dNext, dOp, dVar, dC, dCall, dCons, dNil, dTest, dTruth, dTru, dAnd, dOr, dNot, dNotV, dAndV, dOrV, dIf, dNeg, dLst, dTup, dFld, dBitLen, dSl, dNoPart, dPart, oI0, oI, oEq, oNe, oIsN, oIx, oIn, oAdd, oSub, oMul, oDiv, oMod, oShl, oShr, oAndB, oOrB, oXorB, oPow, oLt, oLe, oGt, oGe, cAbs, cMin, cMax, List.map_cons, List.map_nil, List.cons_append, List.nil_append, List.length_cons, List.length_nil, Nat.zero_add, Nat.reduceAdd, Nat.reduceSub, List.replicate_zero, List.replicate_succ, List.getElem?_cons_zero, List.getElem?_cons_succ, List.set_cons_zero, List.set_cons_succ, List.append_nil, fmD, lk1, lk2, lk3, lk4, lk5, lk6]
  try simp only [mask_pow, dSeq, dSet, dRet, dIfS, dNext, dOp, dVar, dC, dCall, dCons, dNil, dTest, dTruth, dTru, dAnd, dOr, dNot, dNotV, dAndV, dOrV, dIf, dNeg, dLst, dTup, dFld, dBitLen, dSl, dNoPart, dPart, oI0, oI, oEq, oNe, oIsN, oIx, oIn, oAdd, oSub, oMul, oDiv, oMod, oShl, oShr, oAndB, oOrB, oXorB, oPow, oLt, oLe, oGt, oGe, cAbs, cMin, cMax, List.map_cons, List.map_nil, List.cons_append, List.nil_append, List.length_cons, List.length_nil, Nat.zero_add, Nat.reduceAdd, Nat.reduceSub, List.replicate_zero, List.replicate_succ, List.getElem?_cons_zero, List.getElem?_cons_succ, List.set_cons_zero, List.set_cons_succ, List.append_nil, fmD, lk1, lk2, lk3, lk4, lk5, lk6, true_and, and_true, Nat.reduceLeDiff, decide_eq_true_eq]
  exact ⟨shl_one (by omega) (by have := fb_le f; omega), hP⟩
theorem log2_lt {m n : Nat} (h : m < 2 ^ (n + 1)) : m.log2 ≤ n := by
  by_cases h0 : m = 0
  · subst h0; simp
  · have := (Nat.pow_lt_pow_iff_right (a := 2) (by decide)).mp (Nat.lt_of_le_of_lt (log2_spec (by omega)).1 h)
    omega
theorem log2_lt' {m n : Nat} (h : m < 2 ^ n) : m.log2 ≤ n := log2_lt (Nat.lt_of_lt_of_le h (Nat.pow_le_pow_right (by decide) (by omega)))
theorem join_or (f : Format) (s : Bool) {e w : Nat} (he : e < 2 ^ f.expBits) (hw : w < 2 ^ f.fracBits) :
    Builtin.bitOr (Builtin.bitOr (sg s * 2 ^ ((f.fracBits + f.expBits : Nat) : Int).toNat) ((e : Int) * 2 ^ ((f.fracBits : Nat) : Int).toNat)) (w : Int) = ((code f ⟨s, e, w⟩ : Nat) : Int) := by
  have h1 : sg s * 2 ^ ((f.fracBits + f.expBits : Nat) : Int).toNat = (((if s = true then 1 else 0) * 2 ^ f.expBits * 2 ^ f.fracBits : Nat) : Int) := by
    rw [Int.toNat_natCast, ipow, Nat.pow_add]
    cases s <;> simp [sg]
    exact Int.mul_comm _ _
  have h2 : (e : Int) * 2 ^ ((f.fracBits : Nat) : Int).toNat = ((e * 2 ^ f.fracBits : Nat) : Int) := by
    rw [Int.toNat_natCast, ipow]; norm_cast
  rw [h1, h2, or_nat, or_nat]
  have h3 : e * 2 ^ f.fracBits < 2 ^ (f.expBits + f.fracBits) := by
    rw [Nat.pow_add]; exact Nat.mul_lt_mul_of_pos_right he (p2pos _)
  have h4 : (if s = true then 1 else 0) * 2 ^ f.expBits * 2 ^ f.fracBits ||| e * 2 ^ f.fracBits = ((if s = true then 2 ^ f.expBits else 0) + e) * 2 ^ f.fracBits := by
    have : (if s = true then 1 else 0) * 2 ^ f.expBits * 2 ^ f.fracBits = (if s = true then 1 else 0) * 2 ^ (f.expBits + f.fracBits) := by rw [Nat.pow_add, Nat.mul_assoc]
    rw [this, or_add h3, Nat.add_mul, Nat.pow_add]
    cases s <;> simp
  rw [h4, or_add hw]
  rfl
theorem rd_joined : Rd T_joined 4 1 C_joined := by
  intro ds Pp hl h
  obtain ⟨f, s, e, w, rfl, he, hP⟩ := h
  have h1 := fb_le f
  have h2 := eb_le f
  dsimp only [C_shown_bits, dSeq, dSet, dRet, dIfS, dNext, dOp, dVar, dC, dCall, dCons, dNil, dTest, dTruth, dTru, dAnd, dOr, dNot, dNotV, dAndV, dOrV, dIf, dNeg, dLst, dTup, dFld, dBitLen, dSl, dNoPart, dPart, oI0, oI, oEq, oNe, oIsN, oIx, oIn, oAdd, oSub, oMul, oDiv, oMod, oShl, oShr, oAndB, oOrB, oXorB, oPow, oLt, oLe, oGt, oGe, cAbs, cMin, cMax, List.map_cons, List.map_nil, List.cons_append, List.nil_append, List.length_cons, List.length_nil, Nat.zero_add, Nat.reduceAdd, Nat.reduceSub, List.replicate_zero, List.replicate_succ, List.getElem?_cons_zero, List.getElem?_cons_succ, List.set_cons_zero, List.set_cons_succ, List.append_nil, fmD, lk1, lk2, lk3, lk4, lk5, lk6]
  try simp only [C_shown_bits, dSeq, dSet, dRet, dIfS, dNext, dOp, dVar, dC, dCall, dCons, dNil, dTest, dTruth, dTru, dAnd, dOr, dNot, dNotV, dAndV, dOrV, dIf, dNeg, dLst, dTup, dFld, dBitLen, dSl, dNoPart, dPart, oI0, oI, oEq, oNe, oIsN, oIx, oIn, oAdd, oSub, oMul, oDiv, oMod, oShl, oShr, oAndB, oOrB, oXorB, oPow, oLt, oLe, oGt, oGe, cAbs, cMin, cMax, List.map_cons, List.map_nil, List.cons_append, List.nil_append, List.length_cons, List.length_nil, Nat.zero_add, Nat.reduceAdd, Nat.reduceSub, List.replicate_zero, List.replicate_succ, List.getElem?_cons_zero, List.getElem?_cons_succ, List.set_cons_zero, List.set_cons_succ, List.append_nil, fmD, lk1, lk2, lk3, lk4, lk5, lk6, true_and, and_true, Nat.reduceLeDiff, decide_eq_true_eq]
  refine ⟨shl_sg (by omega) (by omega), shl_ok (by omega) (Nat.le_trans (log2_lt' he) (by omega)) (by omega), f, w, rfl, ?_⟩
  rw [join_or f s he (Nat.mod_lt _ (p2pos _))]
  exact hP
theorem rd_shifted : Rd T_shifted 2 0 C_shifted := by
  intro ds Pp hl h
  obtain ⟨m, j, rfl, h1, h2, hP⟩ := h
  unfold shf at hP
  dsimp only [dSeq, dSet, dRet, dIfS, dNext, dOp, dVar, dC, dCall, dCons, dNil, dTest, dTruth, dTru, dAnd, dOr, dNot, dNotV, dAndV, dOrV, dIf, dNeg, dLst, dTup, dFld, dBitLen, dSl, dNoPart, dPart, oI0, oI, oEq, oNe, oIsN, oIx, oIn, oAdd, oSub, oMul, oDiv, oMod, oShl, oShr, oAndB, oOrB, oXorB, oPow, oLt, oLe, oGt, oGe, cAbs, cMin, cMax, List.map_cons, List.map_nil, List.cons_append, List.nil_append, List.length_cons, List.length_nil, Nat.zero_add, Nat.reduceAdd, Nat.reduceSub, List.replicate_zero, List.replicate_succ, List.getElem?_cons_zero, List.getElem?_cons_succ, List.set_cons_zero, List.set_cons_succ, List.append_nil, fmD, lk1, lk2, lk3, lk4, lk5, lk6]
  try simp only [dSeq, dSet, dRet, dIfS, dNext, dOp, dVar, dC, dCall, dCons, dNil, dTest, dTruth, dTru, dAnd, dOr, dNot, dNotV, dAndV, dOrV, dIf, dNeg, dLst, dTup, dFld, dBitLen, dSl, dNoPart, dPart, oI0, oI, oEq, oNe, oIsN, oIx, oIn, oAdd, oSub, oMul, oDiv, oMod, oShl, oShr, oAndB, oOrB, oXorB, oPow, oLt, oLe, oGt, oGe, cAbs, cMin, cMax, List.map_cons, List.map_nil, List.cons_append, List.nil_append, List.length_cons, List.length_nil, Nat.zero_add, Nat.reduceAdd, Nat.reduceSub, List.replicate_zero, List.replicate_succ, List.getElem?_cons_zero, List.getElem?_cons_succ, List.set_cons_zero, List.set_cons_succ, List.append_nil, fmD, lk1, lk2, lk3, lk4, lk5, lk6, true_and, and_true, Nat.reduceLeDiff, decide_eq_true_eq]
  by_cases c : 0 ≤ j
  · rw [if_pos c] at hP ⊢
    refine ⟨shl_ok c (by omega) (by omega), ?_⟩
    rw [ipow]
    exact hP
  · rw [if_neg c] at hP ⊢
    refine ⟨by omega, ?_⟩
    rw [ipow]
    exact hP
theorem max_if (a b : Int) : (if b > a then b else a) = max a b := by omega
theorem lastOf_bnd (f : Format) {m : Nat} {k : Int} (h : m = 0 ∨ (m.log2 : Int) + k ≤ f.emax) (h1 : -(2 ^ 19) ≤ k) : -(2 ^ 19) ≤ f.emin ∧ f.emax ≤ 2 ^ 15 ∧ -(2 ^ 15) ≤ f.emin ∧ f.p ≤ 64 := by cases f <;> decide
theorem rd_value_bits : Rd T_value_bits 4 3 C_value_bits := by
  intro ds Pp hl h
  obtain ⟨f, s, m, k, rfl, h1, h2, h3, h4, hP⟩ := h
  have hb := lastOf_bnd f h4 h2
  dsimp only [C_joined, dSeq, dSet, dRet, dIfS, dNext, dOp, dVar, dC, dCall, dCons, dNil, dTest, dTruth, dTru, dAnd, dOr, dNot, dNotV, dAndV, dOrV, dIf, dNeg, dLst, dTup, dFld, dBitLen, dSl, dNoPart, dPart, oI0, oI, oEq, oNe, oIsN, oIx, oIn, oAdd, oSub, oMul, oDiv, oMod, oShl, oShr, oAndB, oOrB, oXorB, oPow, oLt, oLe, oGt, oGe, cAbs, cMin, cMax, List.map_cons, List.map_nil, List.cons_append, List.nil_append, List.length_cons, List.length_nil, Nat.zero_add, Nat.reduceAdd, Nat.reduceSub, List.replicate_zero, List.replicate_succ, List.getElem?_cons_zero, List.getElem?_cons_succ, List.set_cons_zero, List.set_cons_succ, List.append_nil, fmD, lk1, lk2, lk3, lk4, lk5, lk6]
  try simp only [C_joined, dSeq, dSet, dRet, dIfS, dNext, dOp, dVar, dC, dCall, dCons, dNil, dTest, dTruth, dTru, dAnd, dOr, dNot, dNotV, dAndV, dOrV, dIf, dNeg, dLst, dTup, dFld, dBitLen, dSl, dNoPart, dPart, oI0, oI, oEq, oNe, oIsN, oIx, oIn, oAdd, oSub, oMul, oDiv, oMod, oShl, oShr, oAndB, oOrB, oXorB, oPow, oLt, oLe, oGt, oGe, cAbs, cMin, cMax, List.map_cons, List.map_nil, List.cons_append, List.nil_append, List.length_cons, List.length_nil, Nat.zero_add, Nat.reduceAdd, Nat.reduceSub, List.replicate_zero, List.replicate_succ, List.getElem?_cons_zero, List.getElem?_cons_succ, List.set_cons_zero, List.set_cons_succ, List.append_nil, fmD, lk1, lk2, lk3, lk4, lk5, lk6, true_and, and_true, Nat.reduceLeDiff, decide_eq_true_eq]
  by_cases hm : m = 0
  · subst hm
    rw [if_pos (by simp)]
    exact ⟨f, s, 0, 0, rfl, p2pos _, by rw [Nat.zero_mod]; exact hP⟩
  · have hm' : ¬ (m : Int) = 0 := by omega
    have hm2 : 0 < m := by omega
    rw [if_neg (by simpa using hm)]
    rw [make_eq f s k hm2] at hP
    have e1 : ((Builtin.Int.intBits (m : Int) : Nat) : Int) - 1 + k = (m.log2 : Int) + k := by rw [bits_nat, if_neg hm]; omega
    rw [e1]
    simp only [max_if, C_shifted]
    have e2 : max ((m.log2 : Int) + k - f.emin + 1) 0 = ((expOf f m k : Nat) : Int) := by
      unfold expOf; rw [if_neg hm]; omega
    have e3 : max ((m.log2 : Int) + k) f.emin - (f.p : Int) + 1 = lastOf f m k := rfl
    rw [e2, e3]
    have hb2 : k - lastOf f m k ≤ 2 ^ 20 := by
      unfold lastOf
      omega
    refine ⟨m, k - lastOf f m k, rfl, by omega, hb2, f, s, expOf f m k, shf m (k - lastOf f m k), rfl, expOf_lt f h4, ?_⟩
    rw [shf_fl]
    exact hP
theorem rd_endless_bits : Rd T_endless_bits 2 0 C_endless_bits := by
  intro ds Pp hl h
  obtain ⟨f, s, rfl, hP⟩ := h
  dsimp only [C_joined, dSeq, dSet, dRet, dIfS, dNext, dOp, dVar, dC, dCall, dCons, dNil, dTest, dTruth, dTru, dAnd, dOr, dNot, dNotV, dAndV, dOrV, dIf, dNeg, dLst, dTup, dFld, dBitLen, dSl, dNoPart, dPart, oI0, oI, oEq, oNe, oIsN, oIx, oIn, oAdd, oSub, oMul, oDiv, oMod, oShl, oShr, oAndB, oOrB, oXorB, oPow, oLt, oLe, oGt, oGe, cAbs, cMin, cMax, List.map_cons, List.map_nil, List.cons_append, List.nil_append, List.length_cons, List.length_nil, Nat.zero_add, Nat.reduceAdd, Nat.reduceSub, List.replicate_zero, List.replicate_succ, List.getElem?_cons_zero, List.getElem?_cons_succ, List.set_cons_zero, List.set_cons_succ, List.append_nil, fmD, lk1, lk2, lk3, lk4, lk5, lk6]
  try simp only [C_joined, dSeq, dSet, dRet, dIfS, dNext, dOp, dVar, dC, dCall, dCons, dNil, dTest, dTruth, dTru, dAnd, dOr, dNot, dNotV, dAndV, dOrV, dIf, dNeg, dLst, dTup, dFld, dBitLen, dSl, dNoPart, dPart, oI0, oI, oEq, oNe, oIsN, oIx, oIn, oAdd, oSub, oMul, oDiv, oMod, oShl, oShr, oAndB, oOrB, oXorB, oPow, oLt, oLe, oGt, oGe, cAbs, cMin, cMax, List.map_cons, List.map_nil, List.cons_append, List.nil_append, List.length_cons, List.length_nil, Nat.zero_add, Nat.reduceAdd, Nat.reduceSub, List.replicate_zero, List.replicate_succ, List.getElem?_cons_zero, List.getElem?_cons_succ, List.set_cons_zero, List.set_cons_succ, List.append_nil, fmD, lk1, lk2, lk3, lk4, lk5, lk6, true_and, and_true, Nat.reduceLeDiff, decide_eq_true_eq]
  have h1 : (0 : Int) ≤ (f.p : Int) - 1 := by have := p_pos f; omega
  have hb := lastOf_bnd f (m := 0) (k := 0) (.inl rfl) (by decide)
  refine ⟨shl_one h1 (by omega), f, s, 2 ^ f.expBits - 1, 2 ^ (f.p - 1), ?_, by have := p2pos f.expBits; omega, ?_⟩
  · rw [Int.one_mul, ipow]
    have : ((f.p : Int) - 1).toNat = f.p - 1 := by omega
    rw [this]
  · have : (⟨s, 2 ^ f.expBits - 1, 2 ^ (f.p - 1) % 2 ^ f.fracBits⟩ : Float_) = f.infinite s := by cases f <;> rfl
    rw [this]; exact hP
theorem rd_finite_bits : Rd T_finite_bits 3 0 C_finite_bits := by
  intro ds Pp hl h
  obtain ⟨s, m, k, rfl, h1, h2, h3, h4, hP⟩ := h
  exact ⟨rfl, rfl, rfl, .extended, s, m, k, rfl, h1, h2, h3, h4, hP⟩
theorem rd_too_many_bits : Rd T_too_many_bits 2 0 C_too_many_bits := by
  intro ds Pp hl h
  obtain ⟨f, b, rfl, hP⟩ := h
  dsimp only [dSeq, dSet, dRet, dIfS, dNext, dOp, dVar, dC, dCall, dCons, dNil, dTest, dTruth, dTru, dAnd, dOr, dNot, dNotV, dAndV, dOrV, dIf, dNeg, dLst, dTup, dFld, dBitLen, dSl, dNoPart, dPart, oI0, oI, oEq, oNe, oIsN, oIx, oIn, oAdd, oSub, oMul, oDiv, oMod, oShl, oShr, oAndB, oOrB, oXorB, oPow, oLt, oLe, oGt, oGe, cAbs, cMin, cMax, List.map_cons, List.map_nil, List.cons_append, List.nil_append, List.length_cons, List.length_nil, Nat.zero_add, Nat.reduceAdd, Nat.reduceSub, List.replicate_zero, List.replicate_succ, List.getElem?_cons_zero, List.getElem?_cons_succ, List.set_cons_zero, List.set_cons_succ, List.append_nil, fmD, lk1, lk2, lk3, lk4, lk5, lk6]
  try simp only [dSeq, dSet, dRet, dIfS, dNext, dOp, dVar, dC, dCall, dCons, dNil, dTest, dTruth, dTru, dAnd, dOr, dNot, dNotV, dAndV, dOrV, dIf, dNeg, dLst, dTup, dFld, dBitLen, dSl, dNoPart, dPart, oI0, oI, oEq, oNe, oIsN, oIx, oIn, oAdd, oSub, oMul, oDiv, oMod, oShl, oShr, oAndB, oOrB, oXorB, oPow, oLt, oLe, oGt, oGe, cAbs, cMin, cMax, List.map_cons, List.map_nil, List.cons_append, List.nil_append, List.length_cons, List.length_nil, Nat.zero_add, Nat.reduceAdd, Nat.reduceSub, List.replicate_zero, List.replicate_succ, List.getElem?_cons_zero, List.getElem?_cons_succ, List.set_cons_zero, List.set_cons_succ, List.append_nil, fmD, lk1, lk2, lk3, lk4, lk5, lk6, true_and, and_true, Nat.reduceLeDiff, decide_eq_true_eq]
  refine ⟨by omega, ?_⟩
  have e : (((f.fracBits + f.expBits : Nat) : Int) + 1).toNat = 1 + f.expBits + f.fracBits := by omega
  rw [e, ipow]
  have e2 : decide (0 < (b : Int) / ((2 ^ (1 + f.expBits + f.fracBits) : Nat) : Int)) = decide (2 ^ (1 + f.expBits + f.fracBits) ≤ b) := by
    have hz := p2pos (1 + f.expBits + f.fracBits)
    generalize 2 ^ (1 + f.expBits + f.fracBits) = z at hz
    rw [decide_eq_decide, ← Int.natCast_ediv]
    have := Nat.div_pos_iff (a := b) (b := z)
    omega
  rw [e2]; exact hP
end UX

set_option Elab.async false
set_option linter.all false
set_option maxRecDepth 100000
namespace MX
open Ew
/-! ### an extended float out of its bits -/
def xOf (b : Nat) : Float_ := ⟨decide (2 ^ 15 ≤ b / 2 ^ 64), b / 2 ^ 64 % 2 ^ 15, b % 2 ^ 64⟩
theorem floatOf_eq (b : Nat) : Wrxtbb.floatOf b = if 2 ^ 80 ≤ b then none else some (xOf b) := by
  unfold Wrxtbb.floatOf
  by_cases h : 2 ^ 80 ≤ b
  · rw [if_pos h, if_pos h]
  · rw [if_neg h, if_neg h]
    have e : Wrxtbb.E.part ⟨b % 2 ^ 64, b / 2 ^ 64⟩ = if b % 2 ^ 64 < 2 ^ 64 ∧ b / 2 ^ 64 < 2 ^ 16 then some (xOf b) else none := rfl
    rw [e, if_pos ⟨Nat.mod_lt _ (by decide), by omega⟩]
theorem xOf_ok (b : Nat) : Ok .extended (xOf b) := ⟨Nat.mod_lt _ (by decide), Nat.mod_lt _ (by decide)⟩
theorem code_xOf {b : Nat} (h : ¬ 2 ^ 80 ≤ b) : code .extended (xOf b) = b := by
  show ((if decide (2 ^ 15 ≤ b / 2 ^ 64) = true then 2 ^ 15 else 0) + b / 2 ^ 64 % 2 ^ 15) * 2 ^ 64 + b % 2 ^ 64 = b
  by_cases c : 2 ^ 15 ≤ b / 2 ^ 64
  · simp only [c, decide_true, if_true]; omega
  · simp only [c, decide_false]; simp; omega
/-! ### values -/
def sm (s : Bool) (m : Nat) : Int := if s = true then -(m : Int) else (m : Int)
theorem sm_abs (s : Bool) (m : Nat) : (sm s m).natAbs = m := by cases s <;> simp [sm]
theorem sm_neg {s : Bool} {m : Nat} (h : 0 < m) : decide (sm s m < 0) = s := by cases s <;> simp [sm]; omega
theorem sm_zero {s : Bool} {m : Nat} : sm s m = 0 ↔ m = 0 := by cases s <;> simp [sm]
theorem value_eq (f : Format) (x : Float_) : f.value x = ((sm x.sign (f.m x) : Int) : Rat) * two (f.k x) := by
  unfold Format.value sm
  have e : ((f.m x : Nat) : Rat) = (((f.m x : Nat) : Int) : Rat) := rfl
  cases x.sign
  · simp only [Bool.false_eq_true, if_false, Rat.one_mul]; rfl
  · simp only [if_true, Rat.intCast_neg, e]; grind
theorem V_eq (x : Float_) : Ew.Unit.V x = ((sm x.sign x.frac : Int) : Rat) * two (Format.extended.k x) := value_eq .extended x
theorem k_bnd {x : Float_} (h : Ok .extended x) : -16445 ≤ Format.extended.k x ∧ Format.extended.k x ≤ 16321 := by
  have h1 : x.exp < 32768 := h.exp
  show -16445 ≤ ((max x.exp 1 : Nat) : Int) + (-16382) - 64 ∧ ((max x.exp 1 : Nat) : Int) + (-16382) - 64 ≤ 16321
  omega
/-! ### whole numbers -/
def loss (r : Rounding) (s : Bool) (m : Nat) (k u : Int) : Nat := if ex m k u = true then 0 else INEXACT + (if fl m k u < rm r s m k u then UP else 0)
theorem rm_bnd (r : Rounding) (s : Bool) (m : Nat) (k u : Int) : fl m k u ≤ rm r s m k u ∧ rm r s m k u ≤ fl m k u + 1 := by
  unfold rm fl
  by_cases c : u ≤ k
  · rw [if_pos c, if_pos c]; omega
  · rw [if_neg c, if_neg c]; split <;> omega
end MX

set_option Elab.async false
set_option linter.all false
set_option maxRecDepth 100000
namespace UX
open PySem PySem.Spec PyProof.Rows L2 DD MX
open Ew (Float_ Format Rounding)
/-! ### numbers -/
def kindStr : Ew.Kind → Str
  | .zero => "zero"
  | .small => "small"
  | .nearly => "nearly small"
  | .normal => "normal"
  | .infinite => "infinite"
  | .quiet => "quiet"
  | .loud => "loud"
  | .odd => "odd"
def kd (x : Float_) : Ew.Kind := Format.extended.kind x
def numF (x : Float_) : List (Str × D) := [("bits", .int (code .extended x : Nat)), ("sign", .int (sg x.sign)), ("significand", .int (x.frac : Nat)), ("kind", .str (kindStr (kd x))), ("power", .int (Format.extended.k x))]
def numD (x : Float_) : D := .obj "Number" (numF x)
theorem nk1 (x : Float_) : List.lookup ("bits" : Str) (numF x) = some (.int (code .extended x : Nat)) := rfl
theorem nk2 (x : Float_) : List.lookup ("sign" : Str) (numF x) = some (.int (sg x.sign)) := rfl
theorem nk3 (x : Float_) : List.lookup ("significand" : Str) (numF x) = some (.int (x.frac : Nat)) := rfl
theorem nk4 (x : Float_) : List.lookup ("kind" : Str) (numF x) = some (.str (kindStr (kd x))) := rfl
theorem nk5 (x : Float_) : List.lookup ("power" : Str) (numF x) = some (.int (Format.extended.k x)) := rfl
abbrev OkE (x : Float_) : Prop := Ok .extended x
def rn : Rounding → Int
  | .nearest => 0
  | .down => 1
  | .up => 2
  | .cut => 3
def C_kind_of : DCt := fun ds P => ∃ x : Float_, OkE x ∧ ds = [.int (x.exp : Nat), .int (x.frac : Nat)] ∧ P (.str (kindStr (kd x)))
def C_Number_init : DMk := fun ds P => ∃ x : Float_, OkE x ∧ ds = [.int (code .extended x : Nat)] ∧ P (numF x)
def C_is_no_number : DCt := fun ds P => ∃ x : Float_, ds = [numD x] ∧ P (.bl (kd x).none_)
def C_too_wide : DCt := fun ds P => ∃ b : Nat, ds = [.int b] ∧ P (.bl (decide (2 ^ 80 ≤ b)))
def C_rounds_away : DCt := fun ds P => ∃ (s : Bool) (w rest half : Nat) (r : Rounding), ds = [.int (sg s), .int w, .int rest, .int half, .int (rn r)] ∧ P (.bl (up r s w rest half))
def C_rounded_multiple : DCt := fun ds P => ∃ (s : Bool) (m : Nat) (k u : Int) (r : Rounding), ds = [.int (sg s), .int m, .int k, .int u, .int (rn r)] ∧ m.log2 ≤ 2 ^ 20 ∧ k - u ≤ 2 ^ 20 ∧ u - k ≤ 2 ^ 20 ∧ P (.int (rm r s m k u : Nat))
def C_flags_of_loss : DCt := fun ds P => ∃ (s : Bool) (m : Nat) (k u : Int) (r : Rounding), ds = [.int (rm r s m k u : Nat), .int u, .int m, .int k] ∧ m.log2 ≤ 2 ^ 20 ∧ u - k ≤ 2 ^ 20 ∧ P (.int (loss r s m k u : Nat))
@[reducible] def T_kind_of : DS := (dSeq (dSet 2 (dOp oAndB (dVar 1) (dC (.int 9223372036854775808))))
  (dSeq (dIfS (dTest (dOp oEq (dVar 0) (dC (.int 0)))) (dSeq (dIfS (dTest (dOp oEq (dVar 1) (dC (.int 0)))) (dRet (dC (.str "zero"))) dNext)
  (dRet (dIf (dTruth (dVar 2)) (dC (.str "nearly small")) (dC (.str "small"))))) dNext)
  (dSeq (dIfS (dNot (dTruth (dVar 2))) (dRet (dC (.str "odd"))) dNext)
  (dSeq (dIfS (dTest (dOp oLt (dVar 0) (dC (.int 32767)))) (dRet (dC (.str "normal"))) dNext)
  (dSeq (dIfS (dTest (dOp oEq (dVar 1) (dVar 2))) (dRet (dC (.str "infinite"))) dNext)
  (dRet (dIf (dTruth (dOp oAndB (dVar 1) (dC (.int 4611686018427387904)))) (dC (.str "quiet")) (dC (.str "loud")))))))))
@[reducible] def T_Number_init : DI := (iSet 1 (dOp oAndB (dOp oShr (dVar 1) (dC (.int 64))) (dC (.int 32767))) "Number"
  (iFld "bits" (dVar 1) "Number"
  (iFld "sign" (dOp oShr (dVar 1) (dC (.int 79))) "Number"
  (iFld "significand" (dOp oAndB (dVar 1) (dC (.int 18446744073709551615))) "Number"
  (iFld "kind" (dCall (fun ds P => ds.length = 2 ∧ C_kind_of ds P) (dCons (dVar 2) (dCons (dFld (dVar 0) "Number" "significand") dNil))) "Number"
  (iFld "power" (dOp oSub (dOp oAdd (dCall cMax (dCons (dVar 2) (dCons (dC (.int 1)) dNil))) (dC (.int (-16382)))) (dC (.int 64))) "Number"
  iNil))))))
@[reducible] def T_is_no_number : DS := (dRet (dOp (oIn false) (dFld (dVar 0) "Number" "kind") (dTup (dCons (dC (.str "quiet")) (dCons (dC (.str "loud")) (dCons (dC (.str "odd")) dNil))))))
@[reducible] def T_too_wide : DS := (dRet (dCall (fun ds P => ds.length = 2 ∧ C_too_many_bits ds P) (dCons (dCall (fun ds P => ds.length = 0 ∧ C_extended_format ds P) dNil) (dCons (dVar 0) dNil))))
@[reducible] def T_rounds_away : DS := (dSeq (dIfS (dTest (dOp oEq (dVar 4) (dC (.int 0)))) (dRet (dOrV (dOp oGt (dVar 2) (dVar 3)) (dAndV (dOp oEq (dVar 2) (dVar 3)) (dOp oEq (dOp oMod (dVar 1) (dC (.int 2))) (dC (.int 1)))))) dNext)
  (dSeq (dIfS (dTest (dOp oEq (dVar 4) (dC (.int 1)))) (dRet (dOp oEq (dVar 0) (dC (.int 1)))) dNext)
  (dSeq (dIfS (dTest (dOp oEq (dVar 4) (dC (.int 2)))) (dRet (dOp oEq (dVar 0) (dC (.int 0)))) dNext)
  (dRet (dC (.bl false))))))
@[reducible] def T_rounded_multiple : DS := (dSeq (dSet 5 (dOp oSub (dVar 3) (dVar 2)))
  (dSeq (dIfS (dTest (dOp oLe (dVar 5) (dC (.int 0)))) (dRet (dOp oShl (dVar 1) (dNeg (dVar 5)))) dNext)
  (dSeq (dSet 6 (dOp oShr (dVar 1) (dVar 5)))
  (dSeq (dSet 7 (dOp oSub (dVar 1) (dOp oShl (dVar 6) (dVar 5))))
  (dSeq (dIfS (dAnd (dTest (dOp oGt (dVar 7) (dC (.int 0)))) (dTruth (dCall (fun ds P => ds.length = 5 ∧ C_rounds_away ds P) (dCons (dVar 0) (dCons (dVar 6) (dCons (dVar 7) (dCons (dOp oShl (dC (.int 1)) (dOp oSub (dVar 5) (dC (.int 1)))) (dCons (dVar 4) dNil)))))))) (dRet (dOp oAdd (dVar 6) (dC (.int 1)))) dNext)
  (dRet (dVar 6)))))))
@[reducible] def T_flags_of_loss : DS := (dSeq (dSet 4 (dOp oSub (dVar 1) (dVar 3)))
  (dSeq (dIfS (dTest (dOp oLe (dVar 4) (dC (.int 0)))) (dRet (dC (.int 0))) dNext)
  (dSeq (dSet 5 (dOp oShl (dVar 0) (dVar 4)))
  (dSeq (dIfS (dTest (dOp oEq (dVar 5) (dVar 2))) (dRet (dC (.int 0))) dNext)
  (dRet (dIf (dTest (dOp oGt (dVar 5) (dVar 2))) (dOp oAdd (dC (.int 32)) (dC (.int 128))) (dC (.int 32))))))))
theorem and_bit (a i : Nat) : a &&& 2 ^ i = if a / 2 ^ i % 2 = 1 then 2 ^ i else 0 := by
  have e : a.testBit i = decide (a / 2 ^ i % 2 = 1) := Nat.testBit_eq_decide_div_mod_eq
  apply Nat.eq_of_testBit_eq
  intro j
  rw [Nat.testBit_and, Nat.testBit_two_pow]
  by_cases c : i = j
  · subst c
    rw [e]
    by_cases h : a / 2 ^ i % 2 = 1
    · rw [if_pos h, Nat.testBit_two_pow]; simp [h]
    · rw [if_neg h]; simp [h]
  · by_cases h : a / 2 ^ i % 2 = 1
    · rw [if_pos h, Nat.testBit_two_pow]; simp [c]
    · rw [if_neg h]; simp [c]
def hiN (w : Nat) : Nat := if 2 ^ 63 ≤ w then 2 ^ 63 else 0
def qN (w : Nat) : Nat := if w / 2 ^ 62 % 2 = 1 then 2 ^ 62 else 0
theorem hiN_eq (w : Nat) : (2 ^ 63 ≤ w ∧ hiN w = 9223372036854775808) ∨ (¬ 2 ^ 63 ≤ w ∧ hiN w = 0) := by
  unfold hiN
  by_cases c : 2 ^ 63 ≤ w
  · exact .inl ⟨c, if_pos c⟩
  · exact .inr ⟨c, if_neg c⟩
theorem qN_eq (w : Nat) : (w / 4611686018427387904 % 2 = 1 ∧ qN w = 4611686018427387904) ∨ (¬ w / 4611686018427387904 % 2 = 1 ∧ qN w = 0) := by
  unfold qN
  by_cases c : w / 2 ^ 62 % 2 = 1
  · exact .inl ⟨c, if_pos c⟩
  · exact .inr ⟨c, if_neg c⟩
theorem and_hi {w : Nat} (h : w < 2 ^ 64) : Builtin.bitAnd (w : Int) 9223372036854775808 = ((hiN w : Nat) : Int) := by
  have := and_nat w (2 ^ 63)
  have e : ((2 ^ 63 : Nat) : Int) = 9223372036854775808 := rfl
  rw [e] at this
  rw [this, and_bit]
  rcases hiN_eq w with ⟨c, q⟩ | ⟨c, q⟩
  · rw [q, if_pos (by omega)]
  · rw [q, if_neg (by omega)]
theorem and_q (w : Nat) : Builtin.bitAnd (w : Int) 4611686018427387904 = ((qN w : Nat) : Int) := by
  have := and_nat w (2 ^ 62)
  have e : ((2 ^ 62 : Nat) : Int) = 4611686018427387904 := rfl
  rw [e] at this
  rw [this, and_bit]
  rfl
theorem kd_eq (x : Float_) : kd x = if x.exp = 0 then (if 2 ^ 63 ≤ x.frac then .nearly else if x.frac % 2 ^ 63 = 0 then .zero else .small) else if ¬ 2 ^ 63 ≤ x.frac then .odd else if x.exp < 32767 then .normal else if x.frac % 2 ^ 63 = 0 then .infinite else if 2 ^ 62 ≤ x.frac % 2 ^ 63 then .quiet else .loud := by
  unfold kd Format.kind
  show (if Format.extended = Format.extended then _ else _) = _
  rw [if_pos rfl]
  by_cases c : 2 ^ 63 ≤ x.frac
  · simp only [c, decide_true]; rfl
  · simp only [c, decide_false]; simp
theorem ne_true {i : Int} : ((i != 0) = true) ↔ ¬ i = 0 := by simp
theorem nne_true {i : Int} : ((!(i != 0)) = true) ↔ i = 0 := by simp
theorem rd_kind_of : Rd T_kind_of 2 1 C_kind_of := by
  intro ds Pp hl h
  obtain ⟨x, hx, rfl, hP⟩ := h
  have hf : x.frac < 2 ^ 64 := hx.frac
  have he : x.exp < 2 ^ 15 := hx.exp
  obtain ⟨L, hL⟩ : ∃ L : Int, L = 32767 := ⟨_, rfl⟩
  dsimp only [dSeq, dSet, dRet, dIfS, dNext, dOp, dVar, dC, dCall, dCons, dNil, dTest, dTruth, dTru, dAnd, dOr, dNot, dNotV, dAndV, dOrV, dIf, dNeg, dLst, dTup, dFld, dBitLen, dSl, dNoPart, dPart, oI0, oI, oEq, oNe, oIsN, oIx, oIn, oAdd, oSub, oMul, oDiv, oMod, oShl, oShr, oAndB, oOrB, oXorB, oPow, oLt, oLe, oGt, oGe, cAbs, cMin, cMax, List.map_cons, List.map_nil, List.cons_append, List.nil_append, List.length_cons, List.length_nil, Nat.zero_add, Nat.reduceAdd, Nat.reduceSub, List.replicate_zero, List.replicate_succ, List.getElem?_cons_zero, List.getElem?_cons_succ, List.set_cons_zero, List.set_cons_succ, List.append_nil, fmD, numD, nk1, nk2, nk3, nk4, nk5, lk1, lk2, lk3, lk4, lk5, lk6]
  try simp only [and_hi hf, and_q, dSeq, dSet, dRet, dIfS, dNext, dOp, dVar, dC, dCall, dCons, dNil, dTest, dTruth, dTru, dAnd, dOr, dNot, dNotV, dAndV, dOrV, dIf, dNeg, dLst, dTup, dFld, dBitLen, dSl, dNoPart, dPart, oI0, oI, oEq, oNe, oIsN, oIx, oIn, oAdd, oSub, oMul, oDiv, oMod, oShl, oShr, oAndB, oOrB, oXorB, oPow, oLt, oLe, oGt, oGe, cAbs, cMin, cMax, List.map_cons, List.map_nil, List.cons_append, List.nil_append, List.length_cons, List.length_nil, Nat.zero_add, Nat.reduceAdd, Nat.reduceSub, List.replicate_zero, List.replicate_succ, List.getElem?_cons_zero, List.getElem?_cons_succ, List.set_cons_zero, List.set_cons_succ, List.append_nil, fmD, numD, nk1, nk2, nk3, nk4, nk5, lk1, lk2, lk3, lk4, lk5, lk6, true_and, and_true, Nat.reduceLeDiff, decide_eq_true_eq]
  simp only [ne_true, nne_true, ← hL]
  have key : ∀ K, kd x = K → Pp (.str (kindStr K)) := fun K e => e ▸ hP
  clear hP hl
  have h1 := hiN_eq x.frac
  have h2 := qN_eq x.frac
  have h3 := kd_eq x
  generalize hiN x.frac = H at h1 ⊢
  generalize qN x.frac = Q at h2 ⊢
  generalize kd x = K at h3 key
  generalize x.frac = w at *
  generalize x.exp = e at *
  clear hx
  by_cases c0 : e = 0
  · rw [if_pos c0] at h3
    rw [if_pos (by omega)]
    by_cases c1 : w = 0
    · rw [if_neg (by omega), if_pos (by omega)] at h3
      rw [if_pos (by omega)]; exact key .zero h3
    · rw [if_neg (by omega)]
      by_cases c2 : 2 ^ 63 ≤ w
      · rw [if_pos c2] at h3
        rw [if_pos (by omega)]; exact key .nearly h3
      · rw [if_neg c2, if_neg (by omega)] at h3
        rw [if_neg (by omega)]; exact key .small h3
  · rw [if_neg c0] at h3
    rw [if_neg (by omega)]
    by_cases c2 : 2 ^ 63 ≤ w
    · rw [if_neg (by omega)] at h3
      rw [if_neg (by omega)]
      refine ite_i (fun c3 => ?_) (fun c3 => ?_)
      · rw [if_pos (by omega)] at h3
        exact key .normal h3
      · rw [if_neg (by omega)] at h3
        by_cases c4 : w % 2 ^ 63 = 0
        · rw [if_pos c4] at h3
          rw [if_pos (by omega)]; exact key .infinite h3
        · rw [if_neg c4] at h3
          rw [if_neg (by omega)]
          by_cases c5 : 2 ^ 62 ≤ w % 2 ^ 63
          · rw [if_pos c5] at h3
            rw [if_pos (by omega)]; exact key .quiet h3
          · rw [if_neg c5] at h3
            rw [if_neg (by omega)]; exact key .loud h3
    · rw [if_pos (by omega)] at h3
      rw [if_pos (by omega)]; exact key .odd h3
theorem code_hi {x : Float_} (hx : OkE x) : code .extended x / 2 ^ 79 = (if x.sign = true then 1 else 0) ∧ code .extended x / 2 ^ 64 % 2 ^ 15 = x.exp ∧ code .extended x % 2 ^ 64 = x.frac := by
  have hf : x.frac < 2 ^ 64 := hx.frac
  have he : x.exp < 2 ^ 15 := hx.exp
  have e : code .extended x = ((if x.sign = true then 2 ^ 15 else 0) + x.exp) * 2 ^ 64 + x.frac := rfl
  rw [e]
  cases x.sign <;> simp <;> omega
theorem mask64 (a : Nat) : Builtin.bitAnd (a : Int) 18446744073709551615 = ((a % 2 ^ 64 : Nat) : Int) := mask_nat a 64
theorem mask15 (a : Nat) : Builtin.bitAnd (a : Int) 32767 = ((a % 2 ^ 15 : Nat) : Int) := mask_nat a 15
theorem shr_nat (a n : Nat) : (a : Int) / 2 ^ n = ((a / 2 ^ n : Nat) : Int) := by rw [ipow]; norm_cast
theorem rd_Number_init : RdI T_Number_init 1 1 C_Number_init := by
  intro ds Pp hl h
  obtain ⟨x, hx, rfl, hP⟩ := h
  obtain ⟨h1, h2, h3⟩ := code_hi hx
  have e1 : Builtin.bitAnd ((code .extended x : Nat) / 2 ^ (64 : Int).toNat : Int) 32767 = (x.exp : Nat) := by
    have : (64 : Int).toNat = 64 := rfl
    rw [this, shr_nat, mask15, h2]
  have e2 : ((code .extended x : Nat) / 2 ^ (79 : Int).toNat : Int) = sg x.sign := by
    have : (79 : Int).toNat = 79 := rfl
    rw [this, shr_nat, h1]
    cases x.sign <;> rfl
  have e3 : Builtin.bitAnd ((code .extended x : Nat) : Int) 18446744073709551615 = (x.frac : Nat) := by rw [mask64, h3]
  refine ⟨by show (0 : Int) ≤ 64; decide, ?_⟩
  show _ ∧ _
  refine ⟨rfl, by show 0 < 100; decide, rfl, by show 1 < 100; decide, by show (0 : Int) ≤ 79; decide, ?_⟩
  show _ ∧ _
  refine ⟨rfl, by show 2 < 100; decide, rfl, by show 3 < 100; decide, rfl, rfl, x, hx, ?_, ?_⟩
  · show [D.int (Builtin.bitAnd ((code .extended x : Nat) / 2 ^ (64 : Int).toNat : Int) 32767), D.int (Builtin.bitAnd ((code .extended x : Nat) : Int) 18446744073709551615)] = _
    rw [e1, e3]
  · refine ⟨rfl, by show 4 < 100; decide, rfl, ?_⟩
    have e4 : numF x = ([(("bits" : Str), D.int (code .extended x : Nat)), (("sign" : Str), D.int ((code .extended x : Nat) / 2 ^ (79 : Int).toNat : Int)), (("significand" : Str), D.int (Builtin.bitAnd ((code .extended x : Nat) : Int) 18446744073709551615)), (("kind" : Str), D.str (kindStr (kd x))), (("power" : Str), D.int ((if 1 > Builtin.bitAnd ((code .extended x : Nat) / 2 ^ (64 : Int).toNat : Int) 32767 then 1 else Builtin.bitAnd ((code .extended x : Nat) / 2 ^ (64 : Int).toNat : Int) 32767) + -16382 - 64))] : List (Str × D)) := by
      rw [e1, e2, e3]
      have : (if (1 : Int) > (x.exp : Nat) then 1 else ((x.exp : Nat) : Int)) + -16382 - 64 = Format.extended.k x := by
        show _ = ((max x.exp 1 : Nat) : Int) + (-16382) - 64
        omega
      rw [this]; rfl
    rw [e4] at hP
    exact hP
theorem rd_is_no_number : Rd T_is_no_number 1 0 C_is_no_number := by
  intro ds Pp hl h
  obtain ⟨x, rfl, hP⟩ := h
  dsimp only [dSeq, dSet, dRet, dIfS, dNext, dOp, dVar, dC, dCall, dCons, dNil, dTest, dTruth, dTru, dAnd, dOr, dNot, dNotV, dAndV, dOrV, dIf, dNeg, dLst, dTup, dFld, dBitLen, dSl, dNoPart, dPart, oI0, oI, oEq, oNe, oIsN, oIx, oIn, oAdd, oSub, oMul, oDiv, oMod, oShl, oShr, oAndB, oOrB, oXorB, oPow, oLt, oLe, oGt, oGe, cAbs, cMin, cMax, List.map_cons, List.map_nil, List.cons_append, List.nil_append, List.length_cons, List.length_nil, Nat.zero_add, Nat.reduceAdd, Nat.reduceSub, List.replicate_zero, List.replicate_succ, List.getElem?_cons_zero, List.getElem?_cons_succ, List.set_cons_zero, List.set_cons_succ, List.append_nil, fmD, numD, nk1, nk2, nk3, nk4, nk5, lk1, lk2, lk3, lk4, lk5, lk6]
  try simp only [dSeq, dSet, dRet, dIfS, dNext, dOp, dVar, dC, dCall, dCons, dNil, dTest, dTruth, dTru, dAnd, dOr, dNot, dNotV, dAndV, dOrV, dIf, dNeg, dLst, dTup, dFld, dBitLen, dSl, dNoPart, dPart, oI0, oI, oEq, oNe, oIsN, oIx, oIn, oAdd, oSub, oMul, oDiv, oMod, oShl, oShr, oAndB, oOrB, oXorB, oPow, oLt, oLe, oGt, oGe, cAbs, cMin, cMax, List.map_cons, List.map_nil, List.cons_append, List.nil_append, List.length_cons, List.length_nil, Nat.zero_add, Nat.reduceAdd, Nat.reduceSub, List.replicate_zero, List.replicate_succ, List.getElem?_cons_zero, List.getElem?_cons_succ, List.set_cons_zero, List.set_cons_succ, List.append_nil, fmD, numD, nk1, nk2, nk3, nk4, nk5, lk1, lk2, lk3, lk4, lk5, lk6, true_and, and_true, Nat.reduceLeDiff, decide_eq_true_eq]
  refine ⟨rfl, rfl, ?_⟩
  cases hk : kd x <;> rw [hk] at hP <;> exact hP
theorem rd_too_wide : Rd T_too_wide 1 0 C_too_wide := by
  intro ds Pp hl h
  obtain ⟨b, rfl, hP⟩ := h
  exact ⟨rfl, rfl, rfl, .extended, b, rfl, hP⟩
theorem rd_rounds_away : Rd T_rounds_away 5 0 C_rounds_away := by
  intro ds Pp hl h
  obtain ⟨s, w, rest, half, r, rfl, hP⟩ := h
  cases r
  · dsimp only [dSeq, dSet, dRet, dIfS, dNext, dOp, dVar, dC, dCall, dCons, dNil, dTest, dTruth, dTru, dAnd, dOr, dNot, dNotV, dAndV, dOrV, dIf, dNeg, dLst, dTup, dFld, dBitLen, dSl, dNoPart, dPart, oI0, oI, oEq, oNe, oIsN, oIx, oIn, oAdd, oSub, oMul, oDiv, oMod, oShl, oShr, oAndB, oOrB, oXorB, oPow, oLt, oLe, oGt, oGe, cAbs, cMin, cMax, List.map_cons, List.map_nil, List.cons_append, List.nil_append, List.length_cons, List.length_nil, Nat.zero_add, Nat.reduceAdd, Nat.reduceSub, List.replicate_zero, List.replicate_succ, List.getElem?_cons_zero, List.getElem?_cons_succ, List.set_cons_zero, List.set_cons_succ, List.append_nil, fmD, numD, nk1, nk2, nk3, nk4, nk5, lk1, lk2, lk3, lk4, lk5, lk6]
    try simp only [rn, dSeq, dSet, dRet, dIfS, dNext, dOp, dVar, dC, dCall, dCons, dNil, dTest, dTruth, dTru, dAnd, dOr, dNot, dNotV, dAndV, dOrV, dIf, dNeg, dLst, dTup, dFld, dBitLen, dSl, dNoPart, dPart, oI0, oI, oEq, oNe, oIsN, oIx, oIn, oAdd, oSub, oMul, oDiv, oMod, oShl, oShr, oAndB, oOrB, oXorB, oPow, oLt, oLe, oGt, oGe, cAbs, cMin, cMax, List.map_cons, List.map_nil, List.cons_append, List.nil_append, List.length_cons, List.length_nil, Nat.zero_add, Nat.reduceAdd, Nat.reduceSub, List.replicate_zero, List.replicate_succ, List.getElem?_cons_zero, List.getElem?_cons_succ, List.set_cons_zero, List.set_cons_succ, List.append_nil, fmD, numD, nk1, nk2, nk3, nk4, nk5, lk1, lk2, lk3, lk4, lk5, lk6, true_and, and_true, Nat.reduceLeDiff, decide_eq_true_eq]
    rw [if_pos trivial]
    unfold up at hP
    by_cases c : half < rest
    · rw [if_pos (by omega)]
      simp only [c, decide_true, Bool.true_or] at hP; exact hP
    · rw [if_neg (by omega)]
      simp only [c, decide_false, Bool.false_or] at hP
      by_cases c2 : rest = half
      · rw [if_pos (by omega)]
        refine ⟨by decide, ?_⟩
        have e : (rest == half && w % 2 == 1) = decide ((w : Int) % 2 = 1) := by
          rw [Bool.eq_iff_iff]; simp [c2]; omega
        rw [e] at hP; exact hP
      · rw [if_neg (by omega)]
        have e : (rest == half && w % 2 == 1) = false := by simp [c2]
        rw [e] at hP; exact hP
  · cases s <;> exact hP
  · cases s <;> exact hP
  · exact hP
theorem rd_rounded_multiple : Rd T_rounded_multiple 5 3 C_rounded_multiple := by
  intro ds Pp hl h
  obtain ⟨s, m, k, u, r, rfl, h1, h2, h3, hP⟩ := h
  unfold rm at hP
  dsimp only [C_rounds_away, dSeq, dSet, dRet, dIfS, dNext, dOp, dVar, dC, dCall, dCons, dNil, dTest, dTruth, dTru, dAnd, dOr, dNot, dNotV, dAndV, dOrV, dIf, dNeg, dLst, dTup, dFld, dBitLen, dSl, dNoPart, dPart, oI0, oI, oEq, oNe, oIsN, oIx, oIn, oAdd, oSub, oMul, oDiv, oMod, oShl, oShr, oAndB, oOrB, oXorB, oPow, oLt, oLe, oGt, oGe, cAbs, cMin, cMax, List.map_cons, List.map_nil, List.cons_append, List.nil_append, List.length_cons, List.length_nil, Nat.zero_add, Nat.reduceAdd, Nat.reduceSub, List.replicate_zero, List.replicate_succ, List.getElem?_cons_zero, List.getElem?_cons_succ, List.set_cons_zero, List.set_cons_succ, List.append_nil, fmD, numD, nk1, nk2, nk3, nk4, nk5, lk1, lk2, lk3, lk4, lk5, lk6]
  try simp only [C_rounds_away, dSeq, dSet, dRet, dIfS, dNext, dOp, dVar, dC, dCall, dCons, dNil, dTest, dTruth, dTru, dAnd, dOr, dNot, dNotV, dAndV, dOrV, dIf, dNeg, dLst, dTup, dFld, dBitLen, dSl, dNoPart, dPart, oI0, oI, oEq, oNe, oIsN, oIx, oIn, oAdd, oSub, oMul, oDiv, oMod, oShl, oShr, oAndB, oOrB, oXorB, oPow, oLt, oLe, oGt, oGe, cAbs, cMin, cMax, List.map_cons, List.map_nil, List.cons_append, List.nil_append, List.length_cons, List.length_nil, Nat.zero_add, Nat.reduceAdd, Nat.reduceSub, List.replicate_zero, List.replicate_succ, List.getElem?_cons_zero, List.getElem?_cons_succ, List.set_cons_zero, List.set_cons_succ, List.append_nil, fmD, numD, nk1, nk2, nk3, nk4, nk5, lk1, lk2, lk3, lk4, lk5, lk6, true_and, and_true, Nat.reduceLeDiff, decide_eq_true_eq]
  by_cases c : u ≤ k
  · rw [if_pos c] at hP
    rw [if_pos (by omega)]
    refine ⟨shl_ok (by omega) (by omega) (by omega), ?_⟩
    have e : (-(u - k)).toNat = (k - u).toNat := by omega
    rw [e, ipow]; exact hP
  · rw [if_neg c] at hP
    rw [if_neg (by omega)]
    refine ⟨by omega, ?_⟩
    obtain ⟨n, hn⟩ : ∃ n, (u - k).toNat = n := ⟨_, rfl⟩
    have hn' : u - k = (n : Int) := by omega
    rw [hn] at hP ⊢
    rw [shr_nat]
    have e2 : ((m / 2 ^ n : Nat) : Int) * 2 ^ n = ((m / 2 ^ n * 2 ^ n : Nat) : Int) := by rw [ipow]; norm_cast
    have e3 : (m : Int) - ((m / 2 ^ n * 2 ^ n : Nat) : Int) = ((m % 2 ^ n : Nat) : Int) := by
      have := Nat.div_add_mod m (2 ^ n)
      rw [Nat.mul_comm] at this; omega
    have hlog : (m / 2 ^ n).log2 ≤ 2 ^ 25 := by
      have : m / 2 ^ n ≤ m := Nat.div_le_self _ _
      by_cases z : m = 0
      · subst z; simp
      · have h4 := (log2_spec (m := m) (by omega)).2
        exact Nat.le_trans (log2_lt (Nat.lt_of_le_of_lt this h4)) (by omega)
    rw [e2, e3]
    refine ⟨shl_ok (by omega) hlog (by omega), ?_⟩
    by_cases c2 : 0 < m % 2 ^ n
    · rw [if_pos (by omega)]
      refine ⟨shl_one (by omega) (by omega), s, m / 2 ^ n, m % 2 ^ n, 2 ^ (n - 1), r, ?_, ?_⟩
      · have : (u - k - 1).toNat = n - 1 := by omega
        rw [this, Int.one_mul, ipow]
      · by_cases c3 : up r s (m / 2 ^ n) (m % 2 ^ n) (2 ^ (n - 1)) = true
        · rw [if_pos c3]
          rw [if_pos ⟨c2, c3⟩] at hP
          exact hP
        · rw [if_neg c3]
          rw [if_neg (fun q => c3 q.2)] at hP
          exact hP
    · rw [if_neg (by omega)]
      rw [if_neg (fun q => c2 q.1)] at hP
      rw [if_neg (by decide)]
      exact hP
theorem ex_iff {m : Nat} {k u : Int} (c : ¬ u ≤ k) : ex m k u = decide (m % 2 ^ (u - k).toNat = 0) := by
  unfold ex
  simp [c]
  rw [Bool.eq_iff_iff]; simp
theorem rd_flags_of_loss : Rd T_flags_of_loss 4 2 C_flags_of_loss := by
  intro ds Pp hl h
  obtain ⟨s, m, k, u, r, rfl, h1, h2, hP⟩ := h
  unfold loss at hP
  dsimp only [dSeq, dSet, dRet, dIfS, dNext, dOp, dVar, dC, dCall, dCons, dNil, dTest, dTruth, dTru, dAnd, dOr, dNot, dNotV, dAndV, dOrV, dIf, dNeg, dLst, dTup, dFld, dBitLen, dSl, dNoPart, dPart, oI0, oI, oEq, oNe, oIsN, oIx, oIn, oAdd, oSub, oMul, oDiv, oMod, oShl, oShr, oAndB, oOrB, oXorB, oPow, oLt, oLe, oGt, oGe, cAbs, cMin, cMax, List.map_cons, List.map_nil, List.cons_append, List.nil_append, List.length_cons, List.length_nil, Nat.zero_add, Nat.reduceAdd, Nat.reduceSub, List.replicate_zero, List.replicate_succ, List.getElem?_cons_zero, List.getElem?_cons_succ, List.set_cons_zero, List.set_cons_succ, List.append_nil, fmD, numD, nk1, nk2, nk3, nk4, nk5, lk1, lk2, lk3, lk4, lk5, lk6]
  try simp only [dSeq, dSet, dRet, dIfS, dNext, dOp, dVar, dC, dCall, dCons, dNil, dTest, dTruth, dTru, dAnd, dOr, dNot, dNotV, dAndV, dOrV, dIf, dNeg, dLst, dTup, dFld, dBitLen, dSl, dNoPart, dPart, oI0, oI, oEq, oNe, oIsN, oIx, oIn, oAdd, oSub, oMul, oDiv, oMod, oShl, oShr, oAndB, oOrB, oXorB, oPow, oLt, oLe, oGt, oGe, cAbs, cMin, cMax, List.map_cons, List.map_nil, List.cons_append, List.nil_append, List.length_cons, List.length_nil, Nat.zero_add, Nat.reduceAdd, Nat.reduceSub, List.replicate_zero, List.replicate_succ, List.getElem?_cons_zero, List.getElem?_cons_succ, List.set_cons_zero, List.set_cons_succ, List.append_nil, fmD, numD, nk1, nk2, nk3, nk4, nk5, lk1, lk2, lk3, lk4, lk5, lk6, true_and, and_true, Nat.reduceLeDiff, decide_eq_true_eq]
  by_cases c : u ≤ k
  · have : ex m k u = true := by simp [ex, c]
    rw [if_pos this] at hP
    rw [if_pos (by omega)]; exact hP
  · rw [if_neg (by omega)]
    have b := rm_bnd r s m k u
    rw [ex_iff c] at hP
    have fe : fl m k u = m / 2 ^ (u - k).toNat := by unfold fl; rw [if_neg c]
    have re : m % 2 ^ (u - k).toNat = 0 → rm r s m k u = fl m k u := fun q => rm_ex (by rw [ex_iff c]; simpa using q)
    rw [fe] at hP b re
    obtain ⟨n, hn⟩ : ∃ n, (u - k).toNat = n := ⟨_, rfl⟩
    rw [hn] at hP b re ⊢
    have dm := Nat.div_add_mod m (2 ^ n)
    have lt := Nat.mod_lt m (p2pos n)
    have hlog : (rm r s m k u).log2 ≤ 2 ^ 25 := by
      have hle : rm r s m k u ≤ m + 1 := Nat.le_trans b.2 (Nat.succ_le_succ (Nat.div_le_self _ _))
      have h4 : m < 2 ^ (m.log2 + 1) := Nat.lt_log2_self
      have h5 : rm r s m k u < 2 ^ (m.log2 + 1 + 1) := by rw [Nat.pow_succ]; omega
      exact Nat.le_trans (log2_lt h5) (by omega)
    refine ⟨shl_ok (by omega) hlog (by omega), ?_⟩
    generalize hR : rm r s m k u = R at *
    have e2 : (R : Int) * 2 ^ n = ((R * 2 ^ n : Nat) : Int) := by rw [ipow]; norm_cast
    rw [e2]
    generalize hw : m / 2 ^ n = w at *
    generalize hr : m % 2 ^ n = ρ at *
    rw [Nat.mul_comm] at dm
    have hR2 : R = w ∨ R = w + 1 := by omega
    by_cases c2 : ρ = 0
    · have e := re c2
      rw [e, if_pos (by omega)]
      rw [if_pos (by simpa using c2)] at hP; exact hP
    · rw [if_neg (by simpa using c2)] at hP
      rcases hR2 with q | q
      · rw [q] at hP ⊢
        rw [if_neg (by omega), if_neg (by omega)]
        rw [if_neg (by omega)] at hP; exact hP
      · rw [q] at hP ⊢
        rw [Nat.add_mul, Nat.one_mul, if_neg (by omega), if_pos (by omega)]
        rw [if_pos (by omega)] at hP; exact hP
end UX

set_option Elab.async false
set_option linter.all false
set_option maxRecDepth 100000
namespace UX
open PySem PySem.Spec PyProof.Rows L2 DD MX
open Ew (Float_ Format Rounding)
theorem rn_of {r : Int} (h0 : 0 ≤ r) (h1 : r ≤ 3) : ∃ q : Rounding, r = rn q := by
  have : r = 0 ∨ r = 1 ∨ r = 2 ∨ r = 3 := by omega
  rcases this with rfl | rfl | rfl | rfl
  · exact ⟨.nearest, rfl⟩
  · exact ⟨.down, rfl⟩
  · exact ⟨.up, rfl⟩
  · exact ⟨.cut, rfl⟩
theorem nat_of {z : Int} (h : 0 ≤ z) : ∃ k : Nat, z = (k : Int) := ⟨z.toNat, by omega⟩
theorem rnd_rn (q : Rounding) : WrxtbbNeutral.rnd? (rn q) = some q := by cases q <;> rfl
theorem nat_nat (b : Nat) : WrxtbbNeutral.nat? (b : Int) = some b := by
  unfold WrxtbbNeutral.nat?
  rw [if_pos (by omega)]; simp
theorem frac_log {x : Float_} (hx : OkE x) : x.frac.log2 ≤ 2 ^ 19 := Nat.le_trans (log2_lt' (show x.frac < 2 ^ 64 from hx.frac)) (by decide)
end UX

set_option Elab.async false
set_option linter.all false
set_option maxRecDepth 100000
namespace UX
open PySem PySem.Spec PyProof.Rows L2 DD MX
open Ew (Float_ Format Rounding)
/-! ### no numbers -/
def nums (l : List Float_) : List D := l.map numD
def pick (a b : Float_) : Float_ := if HT.lexLt [(a.frac : Int), 1 - sg a.sign] [(b.frac : Int), 1 - sg b.sign] = true then b else a
def C_precedence : DCt := fun ds P => ∃ x : Float_, ds = [numD x] ∧ P (.tup [.int (x.frac : Nat), .int (1 - sg x.sign)])
def C_chosen : DCt := fun ds P => ∃ l : List Float_, ds = [.lst (nums l)] ∧ l.length ≤ 2 ∧ (match l.filter fun x => (kd x).none_ with
  | [a] => P (numD a)
  | [a, b] => P (numD (pick a b))
  | _ => False)
def C_no_number_told : DCt := fun ds P => ∃ l : List Float_, ds = [.lst (nums l)] ∧ l.length ≤ 2 ∧ (∀ x ∈ l, OkE x) ∧ (match Ew.Unit.noNumber l with
  | none => P .non
  | some t => P (.lst [.int (code .extended t.1 : Nat), .int (t.2 : Nat)]))
@[reducible] def T_precedence : DS := (dRet (dTup (dCons (dFld (dVar 0) "Number" "significand") (dCons (dOp oSub (dC (.int 1)) (dFld (dVar 0) "Number" "sign")) dNil))))
@[reducible] def T_chosen : DS := (dSeq (dSet 1 (fun ρ P => 2 < ρ.length ∧ dLcV 2 (dVar 0) (dTruth (dCall (fun ds P => ds.length = 1 ∧ C_is_no_number ds P) (dCons (dVar 2) dNil))) ρ P))
  (dRet (dMaxK C_precedence (dVar 1))))
@[reducible] def T_no_number_told : DS := (dSeq (dSet 1 (dLcF 2 (dVar 0) dYes (dFld (dVar 2) "Number" "kind")))
  (dSeq (dIfS (dTest (dOp (oIn false) (dC (.str "odd")) (dVar 1))) (dRet (dLst (dCons (dC (.int 1208921207928610747318272)) (dCons (dC (.int 1)) dNil)))) dNext)
  (dSeq (dIfS (dAnd (dTest (dOp (oIn true) (dC (.str "quiet")) (dVar 1))) (dTest (dOp (oIn true) (dC (.str "loud")) (dVar 1)))) (dRet (dC (.non))) dNext)
  (dSeq (dSet 3 (dIf (dTest (dOp (oIn false) (dC (.str "loud")) (dVar 1))) (dC (.int 1)) (dC (.int 0))))
  (dRet (dLst (dCons (dOp oOrB (dFld (dCall (fun ds P => ds.length = 1 ∧ C_chosen ds P) (dCons (dVar 0) dNil)) "Number" "bits") (dC (.int 4611686018427387904))) (dCons (dVar 3) dNil))))))))
theorem rd_precedence : Rd T_precedence 1 0 C_precedence := by
  intro ds Pp hl h
  obtain ⟨x, rfl, hP⟩ := h
  simp only [dSeq, dSet, dRet, dIfS, dNext, dOp, dVar, dC, dCall, dCons, dNil, dTest, dTruth, dTru, dAnd, dOr, dNot, dNotV, dAndV, dOrV, dIf, dNeg, dLst, dTup, dFld, dBitLen, dSl, dNoPart, dPart, oI0, oI, oEq, oNe, oIsN, oIx, oIn, oAdd, oSub, oMul, oDiv, oMod, oShl, oShr, oAndB, oOrB, oXorB, oPow, oLt, oLe, oGt, oGe, cAbs, cMin, cMax, List.map_cons, List.map_nil, List.cons_append, List.nil_append, List.length_cons, List.length_nil, Nat.zero_add, Nat.reduceAdd, Nat.reduceSub, List.replicate_zero, List.replicate_succ, List.getElem?_cons_zero, List.getElem?_cons_succ, List.set_cons_zero, List.set_cons_succ, List.append_nil, fmD, numD, nk1, nk2, nk3, nk4, nk5, lk1, lk2, lk3, lk4, lk5, lk6, true_and, and_true, Nat.reduceLeDiff, decide_eq_true_eq]
  exact hP
theorem lcV_nums {ρ : En} {i : Nat} {P : List D → Prop} {T : DB} (hT : ∀ (x : Float_) (Q : Bool → Prop), Q (kd x).none_ → T (ρ.set i (some (numD x))) Q) : ∀ (l : List Float_) (acc : List D), P (acc ++ nums (l.filter fun x => (kd x).none_)) → lcV i T ρ (nums l) acc P
  | [], acc, h => by
    show P acc
    simpa [nums] using h
  | x :: l, acc, h => by
    refine hT x _ ?_
    cases e : (kd x).none_
    · rw [if_neg (by decide)]
      refine lcV_nums hT l acc ?_
      rw [List.filter_cons_of_neg (by simp [e])] at h
      exact h
    · rw [if_pos rfl]
      refine lcV_nums hT l _ ?_
      rw [List.filter_cons_of_pos (by simp [e])] at h
      simpa [nums] using h
theorem lcF_nums {ρ : En} {i : Nat} {P : List D → Prop} {T : DT} (hT : ∀ (x : Float_) (Q : D → Prop), Q (.str (kindStr (kd x))) → T (ρ.set i (some (numD x))) Q) : ∀ (l : List Float_) (acc : List D), P (acc ++ l.map fun x => D.str (kindStr (kd x))) → lcF i dYes T ρ (nums l) acc P
  | [], acc, h => by
    show P acc
    simpa [nums] using h
  | x :: l, acc, h => by
    show if true = true then T (ρ.set i (some (numD x))) (fun y => flatD y = true ∧ lcF i dYes T ρ (nums l) (acc ++ [y]) P) else lcF i dYes T ρ (nums l) acc P
    rw [if_pos rfl]
    refine hT x _ ⟨rfl, lcF_nums hT l _ ?_⟩
    simpa using h
theorem rd_chosen : Rd T_chosen 1 2 C_chosen := by
  intro ds Pp hl h
  obtain ⟨l, rfl, h2, hP⟩ := h
  have hlen : (nums l).length ≤ 1000 := by simp [nums]; omega
  refine ⟨by show 2 < 3; decide, hlen, lcV_nums (fun x Q hQ => ⟨rfl, x, rfl, hQ⟩) l [] ?_⟩
  rw [List.nil_append]
  have hfl : (l.filter fun x => (kd x).none_).length ≤ 2 := Nat.le_trans (List.length_filter_le _ _) h2
  simp only [dMaxK, C_precedence, dSeq, dSet, dRet, dIfS, dNext, dOp, dVar, dC, dCall, dCons, dNil, dTest, dTruth, dTru, dAnd, dOr, dNot, dNotV, dAndV, dOrV, dIf, dNeg, dLst, dTup, dFld, dBitLen, dSl, dNoPart, dPart, oI0, oI, oEq, oNe, oIsN, oIx, oIn, oAdd, oSub, oMul, oDiv, oMod, oShl, oShr, oAndB, oOrB, oXorB, oPow, oLt, oLe, oGt, oGe, cAbs, cMin, cMax, List.map_cons, List.map_nil, List.cons_append, List.nil_append, List.length_cons, List.length_nil, Nat.zero_add, Nat.reduceAdd, Nat.reduceSub, List.replicate_zero, List.replicate_succ, List.getElem?_cons_zero, List.getElem?_cons_succ, List.set_cons_zero, List.set_cons_succ, List.append_nil, fmD, numD, nk1, nk2, nk3, nk4, nk5, lk1, lk2, lk3, lk4, lk5, lk6, true_and, and_true, Nat.reduceLeDiff, decide_eq_true_eq]
  revert hP hfl
  generalize (l.filter fun x => (kd x).none_) = n
  intro hP hfl
  match n, hP with
  | [a], hP => exact ⟨_, _, ⟨a, rfl, rfl⟩, hP⟩
  | [a, b], hP =>
    refine ⟨_, _, _, _, ⟨a, rfl, rfl⟩, ⟨b, rfl, rfl⟩, ?_⟩
    have hP : Pp (numD (pick a b)) := hP
    unfold pick at hP
    split
    · rename_i q; rw [if_pos q] at hP; exact hP
    · rename_i q; rw [if_neg q] at hP; exact hP
theorem kq_odd (k : Ew.Kind) : eqD (.str (kindStr k)) (.str "odd") = (k == .odd) := by cases k <;> decide
theorem kq_quiet (k : Ew.Kind) : eqD (.str (kindStr k)) (.str "quiet") = (k == .quiet) := by cases k <;> decide
theorem kq_loud (k : Ew.Kind) : eqD (.str (kindStr k)) (.str "loud") = (k == .loud) := by cases k <;> decide
theorem inD_kinds {y : Str} {K : Ew.Kind} (h : ∀ k, eqD (.str (kindStr k)) (.str y) = (k == K)) (l : List Float_) : inD (.str y) (l.map fun x => D.str (kindStr (kd x))) = l.any fun x => kd x == K := by
  unfold inD
  rw [List.any_map]
  congr 1
  funext x
  exact h (kd x)
theorem flat_kinds (l : List Float_) : (l.map fun x => D.str (kindStr (kd x))).all flatD = true := by
  rw [List.all_eq_true]; intro d hd
  obtain ⟨x, _, rfl⟩ := List.mem_map.mp hd
  rfl
theorem or_bit (a i : Nat) : a ||| 2 ^ i = if a / 2 ^ i % 2 = 1 then a else a + 2 ^ i := by
  have e : a.testBit i = decide (a / 2 ^ i % 2 = 1) := Nat.testBit_eq_decide_div_mod_eq
  by_cases h : a / 2 ^ i % 2 = 1
  · rw [if_pos h]
    apply Nat.eq_of_testBit_eq
    intro j
    rw [Nat.testBit_or, Nat.testBit_two_pow]
    by_cases c : i = j
    · subst c; rw [e]; simp [h]
    · simp [c]
  · rw [if_neg h]
    have dm := Nat.div_add_mod a (2 ^ (i + 1))
    have hr : a % 2 ^ (i + 1) < 2 ^ i := by
      have h1 : a % 2 ^ (i + 1) / 2 ^ i = a / 2 ^ i % 2 := by rw [Nat.pow_succ, Nat.mod_mul_right_div_self]
      have h2 : a % 2 ^ (i + 1) / 2 ^ i = 0 := by omega
      exact (Nat.div_eq_zero_iff_lt (p2pos i)).mp h2
    have key : ∀ w r, r < 2 ^ i → (2 ^ (i + 1) * w + r) ||| 2 ^ i = 2 ^ (i + 1) * w + r + 2 ^ i := by
      intro w r hr
      have two : 2 ^ (i + 1) = 2 * 2 ^ i := by rw [Nat.pow_succ]; omega
      have hlt : r + 2 ^ i < 2 ^ (i + 1) := by omega
      have e1 : r ||| 2 ^ i = r + 2 ^ i := by
        have := Nat.two_pow_add_eq_or_of_lt hr 1
        rw [Nat.mul_one] at this
        rw [Nat.or_comm, ← this, Nat.add_comm]
      rw [Nat.two_pow_add_eq_or_of_lt (by omega : r < 2 ^ (i + 1)), Nat.or_assoc, e1, ← Nat.two_pow_add_eq_or_of_lt hlt, Nat.two_pow_add_eq_or_of_lt (by omega : r < 2 ^ (i + 1)) w |>.symm, Nat.add_assoc]
    have := key (a / 2 ^ (i + 1)) (a % 2 ^ (i + 1)) hr
    rw [dm] at this
    exact this
theorem code_quieted {x : Float_} (hx : OkE x) : Builtin.bitOr ((code .extended x : Nat) : Int) 4611686018427387904 = ((code .extended (Ew.Unit.quieted x) : Nat) : Int) := by
  have h1 := or_nat (code .extended x) (2 ^ 62)
  have e : ((2 ^ 62 : Nat) : Int) = 4611686018427387904 := rfl
  rw [e] at h1
  rw [h1, or_bit]
  have hc : code .extended x = ((if x.sign = true then 2 ^ 15 else 0) + x.exp) * 2 ^ 64 + x.frac := rfl
  have e2 : code .extended x / 2 ^ 62 % 2 = x.frac / 2 ^ 62 % 2 := by rw [hc]; omega
  rw [e2]
  unfold Ew.Unit.quieted
  by_cases c : x.frac / 2 ^ 62 % 2 = 1
  · rw [if_pos c, if_pos c]
  · rw [if_neg c, if_neg c]
    have e3 : code .extended { x with frac := x.frac + 2 ^ 62 } = code .extended x + 2 ^ 62 := by
      rw [hc]
      show ((if x.sign = true then 2 ^ 15 else 0) + x.exp) * 2 ^ 64 + (x.frac + 2 ^ 62) = _
      rw [Nat.add_assoc]
    rw [e3]
theorem kd_facts (x : Float_) : ((kd x = .quiet → x.exp ≥ 32767 ∧ 2 ^ 63 + 2 ^ 62 ≤ x.frac) ∧ (kd x = .loud → x.exp ≥ 32767 ∧ (x.frac < 2 ^ 64 → x.frac < 2 ^ 63 + 2 ^ 62))) := by
  rw [kd_eq]
  refine ⟨fun h => ?_, fun h => ?_⟩
  · by_cases c0 : x.exp = 0
    · rw [if_pos c0] at h
      split at h
      · cases h
      · split at h <;> cases h
    · rw [if_neg c0] at h
      split at h
      · cases h
      · rename_i c1
        split at h
        · cases h
        · split at h
          · cases h
          · split at h
            · omega
            · cases h
  · by_cases c0 : x.exp = 0
    · rw [if_pos c0] at h
      split at h
      · cases h
      · split at h <;> cases h
    · rw [if_neg c0] at h
      split at h
      · cases h
      · rename_i c1
        split at h
        · cases h
        · split at h
          · cases h
          · split at h
            · cases h
            · omega
theorem lex2 (a b a' b' : Int) : HT.lexLt [a, b] [a', b'] = decide (a < a' ∨ (a = a' ∧ b < b')) := by
  rw [HT.lexLt_cons, HT.lexLt_cons, HT.lexLt_nil_nil]
  by_cases c : a = a'
  · subst c
    rw [if_pos rfl]
    by_cases d : b = b'
    · subst d; simp
    · rw [if_neg d]; simp
  · rw [if_neg c]
    have : ¬ (a = a') := c
    simp [c]
theorem pick_eq {a b : Float_} (ha : OkE a) (hb : OkE b) (ka : kd a = .quiet ∨ kd a = .loud) (kb : kd b = .quiet ∨ kd b = .loud) : pick a b = Ew.Unit.ofTwo a b := by
  have fa := kd_facts a
  have fb := kd_facts b
  have la : a.frac < 2 ^ 64 := ha.frac
  have lb : b.frac < 2 ^ 64 := hb.frac
  have ea : a.exp < 2 ^ 15 := ha.exp
  have eb : b.exp < 2 ^ 15 := hb.exp
  unfold pick Ew.Unit.ofTwo
  rw [lex2]
  have K1 : Ew.Unit.kind a = kd a := rfl
  have K2 : Ew.Unit.kind b = kd b := rfl
  rw [K1, K2]
  have same : a.frac = b.frac → a.sign = true → b.sign = true → a.exp = b.exp → a = b := by
    intro h1 h2 h3 h4
    cases a; cases b
    simp_all
  have main : (if decide ((a.frac : Int) < b.frac ∨ (a.frac : Int) = b.frac ∧ 1 - sg a.sign < 1 - sg b.sign) = true then b else a) = (if b.frac < a.frac then a else if a.frac < b.frac then b else if a.sign = false then a else b) ∨ ¬ (a.exp = b.exp) := by
    by_cases he : a.exp = b.exp
    · left
      by_cases c1 : b.frac < a.frac
      · rw [if_pos c1, if_neg (by simp only [decide_eq_true_eq]; omega)]
      · rw [if_neg c1]
        by_cases c2 : a.frac < b.frac
        · rw [if_pos c2, if_pos (by simp only [decide_eq_true_eq]; omega)]
        · rw [if_neg c2]
          have hf : a.frac = b.frac := by omega
          cases sa : a.sign <;> cases sb : b.sign
          · rw [if_pos rfl, if_neg (by simp [sg, hf])]
          · rw [if_pos rfl, if_neg (by simp [sg, hf])]
          · have L : (if decide ((a.frac : Int) < b.frac ∨ (a.frac : Int) = b.frac ∧ 1 - sg true < 1 - sg false) = true then b else a) = b := if_pos (by simp [sg, hf])
            rw [L]; rfl
          · have L : (if decide ((a.frac : Int) < b.frac ∨ (a.frac : Int) = b.frac ∧ 1 - sg true < 1 - sg true) = true then b else a) = a := if_neg (by simp [sg, hf])
            rw [L]; exact same hf sa sb he
    · right; exact he
  have he : a.exp = b.exp := by
    have h1 : a.exp ≥ 32767 := by rcases ka with q | q; exact (fa.1 q).1; exact (fa.2 q).1
    have h2 : b.exp ≥ 32767 := by rcases kb with q | q; exact (fb.1 q).1; exact (fb.2 q).1
    omega
  have main := main.resolve_right (fun q => q he)
  rw [main]
  clear main
  rcases ka with ka | ka <;> rcases kb with kb | kb <;> rw [ka, kb]
  · simp only [reduceCtorEq, and_false, false_and, if_false]
  · have h1 := (fa.1 ka).2
    have h2 := (fb.2 kb).2 lb
    rw [if_pos (by omega)]; rfl
  · have h1 := (fb.1 kb).2
    have h2 := (fa.2 ka).2 la
    rw [if_neg (by omega), if_pos (by omega)]; rfl
  · simp only [reduceCtorEq, and_false, false_and, if_false]
theorem noNumber_eq (l : List Float_) : Ew.Unit.noNumber l = if (l.any fun x => kd x == .odd) = true then some (Format.extended.empty, 1) else
    match l.filter fun x => (kd x).none_ with
    | [] => none
    | [a] => some (Ew.Unit.quieted a, if ((l.filter fun x => (kd x).none_).any fun x => kd x == .loud) = true then 1 else 0)
    | a :: b :: _ => some (Ew.Unit.quieted (Ew.Unit.ofTwo a b), if ((l.filter fun x => (kd x).none_).any fun x => kd x == .loud) = true then 1 else 0) := rfl
theorem any_filter_loud (l : List Float_) : ((l.filter fun x => (kd x).none_).any fun x => kd x == .loud) = l.any fun x => kd x == .loud := by
  rw [List.any_filter]
  congr 1
  funext x
  cases kd x <;> rfl
theorem rd_no_number_told : Rd T_no_number_told 1 3 C_no_number_told := by
  intro ds Pp hl h
  obtain ⟨l, rfl, h2, hok, hP⟩ := h
  have hlen : (nums l).length ≤ 1000 := by simp [nums]; omega
  refine ⟨hlen, lcF_nums (fun x Q hQ => ⟨rfl, hQ⟩) l [] ?_⟩
  rw [List.nil_append]
  rw [noNumber_eq, any_filter_loud] at hP
  simp only [flat_kinds, flatD, inD_kinds kq_odd, inD_kinds kq_quiet, inD_kinds kq_loud, C_chosen, Bool.false_eq_true, if_false, if_true, dSeq, dSet, dRet, dIfS, dNext, dOp, dVar, dC, dCall, dCons, dNil, dTest, dTruth, dTru, dAnd, dOr, dNot, dNotV, dAndV, dOrV, dIf, dNeg, dLst, dTup, dFld, dBitLen, dSl, dNoPart, dPart, oI0, oI, oEq, oNe, oIsN, oIx, oIn, oAdd, oSub, oMul, oDiv, oMod, oShl, oShr, oAndB, oOrB, oXorB, oPow, oLt, oLe, oGt, oGe, cAbs, cMin, cMax, List.map_cons, List.map_nil, List.cons_append, List.nil_append, List.length_cons, List.length_nil, Nat.zero_add, Nat.reduceAdd, Nat.reduceSub, List.replicate_zero, List.replicate_succ, List.getElem?_cons_zero, List.getElem?_cons_succ, List.set_cons_zero, List.set_cons_succ, List.append_nil, fmD, numD, nk1, nk2, nk3, nk4, nk5, lk1, lk2, lk3, lk4, lk5, lk6, true_and, and_true, Nat.reduceLeDiff, decide_eq_true_eq]
  by_cases c1 : (l.any fun x => kd x == .odd) = true
  · rw [if_pos c1] at hP
    rw [if_pos c1]
    exact hP
  · rw [if_neg c1] at hP
    rw [if_neg c1]
    have hno : ∀ x ∈ l, kd x ≠ .odd := by
      intro x hx q
      exact c1 (List.any_eq_true.mpr ⟨x, hx, by simp [q]⟩)
    have hmem : ∀ x ∈ l.filter (fun x => (kd x).none_), OkE x ∧ (kd x = .quiet ∨ kd x = .loud) := by
      intro x hx
      obtain ⟨h3, h4⟩ := List.mem_filter.mp hx
      refine ⟨hok x h3, ?_⟩
      have h5 := hno x h3
      revert h4 h5
      cases kd x <;> simp [Ew.Kind.none_]
    have hfl : (l.filter fun x => (kd x).none_).length ≤ 2 := Nat.le_trans (List.length_filter_le _ _) h2
    have hex : l.filter (fun x => (kd x).none_) = [] ↔ ((l.any fun x => kd x == .quiet) = false ∧ (l.any fun x => kd x == .loud) = false) := by
      rw [List.filter_eq_nil_iff]
      constructor
      · intro h
        refine ⟨?_, ?_⟩ <;> rw [List.any_eq_false] <;> intro x hx q <;> have := h x hx <;> have e := eq_of_beq q <;> rw [e] at this <;> simp [Ew.Kind.none_] at this
      · rintro ⟨h3, h4⟩ x hx
        rw [List.any_eq_false] at h3 h4
        have h5 := h3 x hx
        have h6 := h4 x hx
        have h7 := hno x hx
        revert h5 h6 h7
        cases kd x <;> simp [Ew.Kind.none_]
    have fin : l.filter (fun x => (kd x).none_) ≠ [] → ∃ l_1, [D.lst (nums l)] = [D.lst (nums l_1)] ∧ l_1.length ≤ 2 ∧ (match l_1.filter (fun x => (kd x).none_) with
        | [a] => Pp (D.lst [D.int (Builtin.bitOr ((code .extended a : Nat) : Int) 4611686018427387904), D.int ((if (l.any fun x => kd x == .loud) = true then 1 else 0 : Nat) : Int)])
        | [a, b] => Pp (D.lst [D.int (Builtin.bitOr ((code .extended (pick a b) : Nat) : Int) 4611686018427387904), D.int ((if (l.any fun x => kd x == .loud) = true then 1 else 0 : Nat) : Int)])
        | _ => False) := by
      intro hne
      refine ⟨l, rfl, h2, ?_⟩
      revert hP hmem hfl hne
      clear hex
      generalize (l.filter fun x => (kd x).none_) = n
      intro hP hmem hfl hne
      match n, hP, hmem, hfl, hne with
      | [], _, _, _, hne => exact absurd rfl hne
      | [a], hP, hmem, _, _ =>
        have := (hmem a List.mem_cons_self).1
        show Pp _
        rw [code_quieted this]
        exact hP
      | [a, b], hP, hmem, _, _ =>
        have ha := hmem a List.mem_cons_self
        have hb := hmem b (List.mem_cons_of_mem _ List.mem_cons_self)
        show Pp _
        have hpk : OkE (pick a b) := by unfold pick; split; exact hb.1; exact ha.1
        rw [code_quieted hpk, pick_eq ha.1 hb.1 ha.2 hb.2]
        exact hP
      | a :: b :: c :: n, _, _, hfl, _ => simp at hfl
    cases hQ : (l.any fun x => kd x == .quiet) <;> cases hL : (l.any fun x => kd x == .loud)
    · have hn := hex.mpr ⟨hQ, hL⟩
      rw [hn] at hP
      exact hP
    all_goals
      have hn : l.filter (fun x => (kd x).none_) ≠ [] := by rw [ne_eq, hex, hQ, hL]; simp
      have := fin hn
      rw [hL] at this
      simpa using this
end UX

set_option Elab.async false
set_option linter.all false
set_option maxRecDepth 100000
namespace UX
open PySem PySem.Spec PyProof.Rows L2 DD MX
open Ew (Float_ Format Rounding)
/-! ### load -/
def C_infinite_bits : DCt := fun ds P => ∃ s : Bool, ds = [.int (sg s)] ∧ P (.int (code .extended (Format.extended.infinite s) : Nat))
@[reducible] def T_infinite_bits : DS := (dRet (dCall (fun ds P => ds.length = 2 ∧ C_endless_bits ds P) (dCons (dCall (fun ds P => ds.length = 0 ∧ C_extended_format ds P) dNil) (dCons (dVar 0) dNil))))
theorem rd_infinite_bits : Rd T_infinite_bits 1 0 C_infinite_bits := by
  intro ds Pp hl h
  obtain ⟨s, rfl, hP⟩ := h
  exact ⟨rfl, rfl, rfl, .extended, s, rfl, hP⟩
theorem nf_facts (d : Bool) : (Wrxtbb.formatOf d).fracBits = (Wrxtbb.formatOf d).p - 1 ∧ 24 ≤ (Wrxtbb.formatOf d).p ∧ (Wrxtbb.formatOf d).p ≤ 53 ∧ (Wrxtbb.formatOf d).expBits ≤ 11 ∧ 8 ≤ (Wrxtbb.formatOf d).expBits ∧ -1022 ≤ (Wrxtbb.formatOf d).emin ∧ (Wrxtbb.formatOf d).emin ≤ -126 ∧ Wrxtbb.formatOf d ≠ .extended := by
  cases d <;> decide
theorem nm (d : Bool) (x : Float_) : (Wrxtbb.formatOf d).m x = if x.exp = 0 then x.frac else 2 ^ ((Wrxtbb.formatOf d).p - 1) + x.frac := by
  unfold Format.m
  have := (nf_facts d).2.2.2.2.2.2.2
  simp [this]
end UX

set_option Elab.async false
set_option linter.all false
set_option maxRecDepth 100000
namespace MX
open Ew
/-! ### rounded, by whole numbers -/
def over (f : Format) (q : Nat) (r : Rounding) (s : Bool) : Told := if r = .cut ∨ (r = .down ∧ s = false) ∨ (r = .up ∧ s = true) then (f.make s (2 ^ q - 1) (f.emax - (q : Int) + 1), OVER + INEXACT) else (f.infinite s, OVER + INEXACT + UP)
def under (f : Format) (q : Nat) (r : Rounding) (s : Bool) (m : Nat) (k : Int) : Told := (f.make s (rm r s m k (f.emin - (q : Int) + 1)) (f.emin - (q : Int) + 1), if ex m k (f.emin - (q : Int) + 1) = true then 0 else UNDER + INEXACT + (if fl m k (f.emin - (q : Int) + 1) < rm r s m k (f.emin - (q : Int) + 1) then UP else 0))
def unitOf (q m : Nat) (k : Int) : Int := (m.log2 : Int) + k - (q : Int) + 1
def topR (q : Nat) (r : Rounding) (s : Bool) (m : Nat) (k : Int) : Int := if rm r s m k (unitOf q m k) = 2 ^ q then (m.log2 : Int) + k + 1 else (m.log2 : Int) + k
def rnd (f : Format) (q : Nat) (r : Rounding) (s : Bool) (m : Nat) (k : Int) : Told :=
  if f.emax < topR q r s m k then over f q r s else if topR q r s m k < f.emin then under f q r s m k
  else (f.make s (rm r s m k (unitOf q m k)) (unitOf q m k), loss r s m k (unitOf q m k))
theorem rounded_eq (f : Format) (q : Nat) (r : Rounding) (s : Bool) {x : Size} {m : Nat} {k : Int} (I : Is x m k) (hm : 0 < m) : f.rounded q r s x = rnd f q r s m k := by
  unfold Format.rounded
  simp only [top_eq I hm, multiple_eq I, exactAt_eq I, floorAt_eq I]
  rfl
theorem ofRat_eq (f : Format) (q : Nat) (r : Rounding) (z : Bool) {v : Rat} {s : Bool} {m : Nat} {k : Int} (h : v = ((sm s m : Int) : Rat) * two k) (hm : 0 < m) : f.ofRat q r z v = rnd f q r s m k := by
  unfold Format.ofRat
  have I := is_of h
  rw [sm_abs] at I
  have hm0 : ¬ m = 0 := by omega
  rw [if_neg (mt (rat_zero h).mp (mt sm_zero.mp hm0)), rounded_eq f q r _ I hm, rat_neg h, sm_neg hm]
/-- the rounded multiple has q digits, or it is 2^q -/
theorem rm_log {q : Nat} (hq : 1 ≤ q) (r : Rounding) (s : Bool) {m : Nat} (k : Int) (hm : 0 < m) : 0 < rm r s m k (unitOf q m k) ∧ rm r s m k (unitOf q m k) ≤ 2 ^ q ∧ ((rm r s m k (unitOf q m k)).log2 : Int) + unitOf q m k = topR q r s m k := by
  have b := rm_bnd r s m k (unitOf q m k)
  have hu : unitOf q m k ≤ (m.log2 : Int) + k := by unfold unitOf; omega
  obtain ⟨f0, f1⟩ := fl_log hm hu
  have f2 : (fl m k (unitOf q m k)).log2 = q - 1 := by unfold unitOf at f1 ⊢; omega
  have f3 := log2_spec f0
  rw [f2] at f3
  have e : q - 1 + 1 = q := by omega
  rw [e] at f3
  refine ⟨by omega, by omega, ?_⟩
  unfold topR
  by_cases c : rm r s m k (unitOf q m k) = 2 ^ q
  · rw [if_pos c, c]
    have : (2 ^ q).log2 = q := Nat.log2_two_pow
    rw [this]; unfold unitOf; omega
  · rw [if_neg c]
    have : (rm r s m k (unitOf q m k)).log2 = q - 1 := log2_of (by omega) (by rw [e]; omega)
    rw [this]; unfold unitOf; omega
theorem rm_small {f : Format} {q : Nat} (hq : 1 ≤ q) (r : Rounding) (s : Bool) {m : Nat} {k : Int} (hm : 0 < m) (h : (m.log2 : Int) + k < f.emin) : rm r s m k (f.emin - (q : Int) + 1) = 0 ∨ ((rm r s m k (f.emin - (q : Int) + 1)).log2 : Int) + (f.emin - (q : Int) + 1) ≤ f.emin := by
  have b := rm_bnd r s m k (f.emin - (q : Int) + 1)
  have l : fl m k (f.emin - (q : Int) + 1) < 2 ^ (q - 1) := fl_lt hm (by omega)
  by_cases c : rm r s m k (f.emin - (q : Int) + 1) = 0
  · exact .inl c
  · right
    have h2 : rm r s m k (f.emin - (q : Int) + 1) < 2 ^ (q - 1 + 1) := by rw [Nat.pow_succ]; omega
    have h3 : rm r s m k (f.emin - (q : Int) + 1) ≤ 2 ^ (q - 1) := by omega
    have h4 := (log2_spec (m := rm r s m k (f.emin - (q : Int) + 1)) (by omega)).1
    have h5 := (Nat.pow_le_pow_iff_right (a := 2) (by decide)).mp (Nat.le_trans h4 h3)
    omega
end MX

set_option Elab.async false
set_option linter.all false
set_option maxRecDepth 100000
namespace UX
open PySem PySem.Spec PyProof.Rows L2 DD MX
open Ew (Float_ Format Rounding)
/-! ### rounded to a format -/
def tld (f : Format) (t : Float_ × Nat) : D := .lst [.int (code f t.1 : Nat), .int (t.2 : Nat)]
def C_overflowed : DCt := fun ds P => ∃ (f : Format) (s : Bool) (q : Nat) (r : Rounding), ds = [fmD f, .int (sg s), .int q, .int (rn r)] ∧ 1 ≤ q ∧ q ≤ 64 ∧ P (tld f (over f q r s))
def C_rounded_small : DCt := fun ds P => ∃ (f : Format) (s : Bool) (m : Nat) (k : Int) (q : Nat) (r : Rounding), ds = [fmD f, .int (sg s), .int m, .int k, .int q, .int (rn r)] ∧ 0 < m ∧ m.log2 ≤ 2 ^ 18 ∧ -(2 ^ 18) ≤ k ∧ k ≤ 2 ^ 18 ∧ 1 ≤ q ∧ q ≤ 64 ∧ (m.log2 : Int) + k < f.emin ∧ P (tld f (MX.under f q r s m k))
def C_rounded_to : DCt := fun ds P => ∃ (f : Format) (s : Bool) (m : Nat) (k : Int) (q : Nat) (r : Rounding), ds = [fmD f, .int (sg s), .int m, .int k, .int q, .int (rn r)] ∧ 0 < m ∧ m.log2 ≤ 2 ^ 18 ∧ -(2 ^ 18) ≤ k ∧ k ≤ 2 ^ 18 ∧ 1 ≤ q ∧ q ≤ 64 ∧ P (tld f (rnd f q r s m k))
@[reducible] def T_overflowed : DS := (dSeq (dIfS (dOr (dTest (dOp oEq (dVar 3) (dC (.int 3)))) (dOr (dAnd (dTest (dOp oEq (dVar 3) (dC (.int 1)))) (dTest (dOp oEq (dVar 1) (dC (.int 0))))) (dAnd (dTest (dOp oEq (dVar 3) (dC (.int 2)))) (dTest (dOp oEq (dVar 1) (dC (.int 1))))))) (dSeq (dSet 4 (dCall (fun ds P => ds.length = 4 ∧ C_value_bits ds P) (dCons (dVar 0) (dCons (dVar 1) (dCons (dOp oSub (dOp oShl (dC (.int 1)) (dVar 2)) (dC (.int 1))) (dCons (dOp oAdd (dOp oSub (dFld (dVar 0) "Format" "greatest_exponent") (dVar 2)) (dC (.int 1))) dNil))))))
  (dRet (dLst (dCons (dVar 4) (dCons (dOp oAdd (dC (.int 8)) (dC (.int 32))) dNil))))) dNext)
  (dRet (dLst (dCons (dCall (fun ds P => ds.length = 2 ∧ C_endless_bits ds P) (dCons (dVar 0) (dCons (dVar 1) dNil))) (dCons (dOp oAdd (dOp oAdd (dC (.int 8)) (dC (.int 32))) (dC (.int 128))) dNil)))))
@[reducible] def T_rounded_small : DS := (dSeq (dSet 6 (dOp oAdd (dOp oSub (dFld (dVar 0) "Format" "least_exponent") (dVar 4)) (dC (.int 1))))
  (dSeq (dSet 7 (dCall (fun ds P => ds.length = 5 ∧ C_rounded_multiple ds P) (dCons (dVar 1) (dCons (dVar 2) (dCons (dVar 3) (dCons (dVar 6) (dCons (dVar 5) dNil)))))))
  (dSeq (dSet 8 (dCall (fun ds P => ds.length = 4 ∧ C_flags_of_loss ds P) (dCons (dVar 7) (dCons (dVar 6) (dCons (dVar 2) (dCons (dVar 3) dNil))))))
  (dSeq (dSet 9 (dIf (dTruth (dVar 8)) (dOp oAdd (dC (.int 16)) (dVar 8)) (dC (.int 0))))
  (dRet (dLst (dCons (dCall (fun ds P => ds.length = 4 ∧ C_value_bits ds P) (dCons (dVar 0) (dCons (dVar 1) (dCons (dVar 7) (dCons (dVar 6) dNil))))) (dCons (dVar 9) dNil))))))))
@[reducible] def T_rounded_to : DS := (dSeq (dSet 6 (dOp oSub (dOp oAdd (dBitLen (dVar 2)) (dVar 3)) (dVar 4)))
  (dSeq (dSet 7 (dCall (fun ds P => ds.length = 5 ∧ C_rounded_multiple ds P) (dCons (dVar 1) (dCons (dVar 2) (dCons (dVar 3) (dCons (dVar 6) (dCons (dVar 5) dNil)))))))
  (dSeq (dSet 8 (dOp oAdd (dOp oSub (dBitLen (dVar 7)) (dC (.int 1))) (dVar 6)))
  (dSeq (dIfS (dTest (dOp oGt (dVar 8) (dFld (dVar 0) "Format" "greatest_exponent"))) (dRet (dCall (fun ds P => ds.length = 4 ∧ C_overflowed ds P) (dCons (dVar 0) (dCons (dVar 1) (dCons (dVar 4) (dCons (dVar 5) dNil)))))) dNext)
  (dSeq (dIfS (dTest (dOp oLt (dVar 8) (dFld (dVar 0) "Format" "least_exponent"))) (dRet (dCall (fun ds P => ds.length = 6 ∧ C_rounded_small ds P) (dCons (dVar 0) (dCons (dVar 1) (dCons (dVar 2) (dCons (dVar 3) (dCons (dVar 4) (dCons (dVar 5) dNil)))))))) dNext)
  (dRet (dLst (dCons (dCall (fun ds P => ds.length = 4 ∧ C_value_bits ds P) (dCons (dVar 0) (dCons (dVar 1) (dCons (dVar 7) (dCons (dVar 6) dNil))))) (dCons (dCall (fun ds P => ds.length = 4 ∧ C_flags_of_loss ds P) (dCons (dVar 7) (dCons (dVar 6) (dCons (dVar 2) (dCons (dVar 3) dNil))))) dNil)))))))))
theorem fb_facts (f : Format) : -16382 ≤ f.emin ∧ f.emin ≤ 0 ∧ 0 ≤ f.emax ∧ f.emax ≤ 16383 := by cases f <;> decide
theorem rd_overflowed : Rd T_overflowed 4 1 C_overflowed := by
  intro ds Pp hl h
  obtain ⟨f, s, q, r, rfl, h1, h2, hP⟩ := h
  have hb := fb_facts f
  have key1 : (r = .cut ∨ (r = .down ∧ s = false) ∨ (r = .up ∧ s = true)) → CShl 1 (q : Int) ∧ ∃ (f_1 : Format) (s_1 : Bool) (m : Nat) (k : Int), [fmD f, D.int (sg s), D.int (1 * 2 ^ (q : Int).toNat - 1), D.int (f.emax - (q : Int) + 1)] = [fmD f_1, D.int (sg s_1), D.int m, D.int k] ∧ m.log2 ≤ 2 ^ 19 ∧ -(2 ^ 19) ≤ k ∧ k ≤ 2 ^ 19 ∧ (m = 0 ∨ (m.log2 : Int) + k ≤ f_1.emax) ∧ Pp (D.lst [D.int (code f_1 (f_1.make s_1 m k) : Nat), D.int 40]) := by
    intro c
    unfold over at hP
    rw [if_pos c] at hP
    have hp := p2pos q
    have hlt : 2 ^ q - 1 < 2 ^ (q - 1 + 1) := by rw [Nat.sub_add_cancel h1]; omega
    have hlog := log2_lt hlt
    refine ⟨shl_one (by omega) (by omega), f, s, 2 ^ q - 1, f.emax - (q : Int) + 1, ?_, by omega, by omega, by omega, .inr (by omega), hP⟩
    have : (1 * 2 ^ (q : Int).toNat - 1 : Int) = ((2 ^ q - 1 : Nat) : Int) := by rw [Int.toNat_natCast, Int.one_mul, ipow]; omega
    rw [this]
  have key2 : ¬ (r = .cut ∨ (r = .down ∧ s = false) ∨ (r = .up ∧ s = true)) → ∃ (f_1 : Format) (s_1 : Bool), [fmD f, D.int (sg s)] = [fmD f_1, D.int (sg s_1)] ∧ Pp (D.lst [D.int (code f_1 (f_1.infinite s_1) : Nat), D.int 168]) := by
    intro c
    unfold over at hP
    rw [if_neg c] at hP
    exact ⟨f, s, rfl, hP⟩
  simp only [C_value_bits, C_endless_bits, dSeq, dSet, dRet, dIfS, dNext, dOp, dVar, dC, dCall, dCons, dNil, dTest, dTruth, dTru, dAnd, dOr, dNot, dNotV, dAndV, dOrV, dIf, dNeg, dLst, dTup, dFld, dBitLen, dSl, dNoPart, dPart, oI0, oI, oEq, oNe, oIsN, oIx, oIn, oAdd, oSub, oMul, oDiv, oMod, oShl, oShr, oAndB, oOrB, oXorB, oPow, oLt, oLe, oGt, oGe, cAbs, cMin, cMax, List.map_cons, List.map_nil, List.cons_append, List.nil_append, List.length_cons, List.length_nil, Nat.zero_add, Nat.reduceAdd, Nat.reduceSub, List.replicate_zero, List.replicate_succ, List.getElem?_cons_zero, List.getElem?_cons_succ, List.set_cons_zero, List.set_cons_succ, List.append_nil, fmD, lk1, lk2, lk3, lk4, lk5, lk6, true_and, and_true, Nat.reduceLeDiff, decide_eq_true_eq]
  simp only [fmD] at key1 key2
  cases r <;> cases s <;> simp [rn, sg] at key1 key2 ⊢ <;> first | exact key1 | exact key2
theorem rd_rounded_small : Rd T_rounded_small 6 4 C_rounded_small := by
  intro ds Pp hl h
  obtain ⟨f, s, m, k, q, r, rfl, hm, h1, h2, h3, h4, h5, h6, hP⟩ := h
  have hb := fb_facts f
  have hs := rm_small h4 r s hm h6
  unfold MX.under at hP
  simp only [C_rounded_multiple, C_flags_of_loss, C_value_bits, dSeq, dSet, dRet, dIfS, dNext, dOp, dVar, dC, dCall, dCons, dNil, dTest, dTruth, dTru, dAnd, dOr, dNot, dNotV, dAndV, dOrV, dIf, dNeg, dLst, dTup, dFld, dBitLen, dSl, dNoPart, dPart, oI0, oI, oEq, oNe, oIsN, oIx, oIn, oAdd, oSub, oMul, oDiv, oMod, oShl, oShr, oAndB, oOrB, oXorB, oPow, oLt, oLe, oGt, oGe, cAbs, cMin, cMax, List.map_cons, List.map_nil, List.cons_append, List.nil_append, List.length_cons, List.length_nil, Nat.zero_add, Nat.reduceAdd, Nat.reduceSub, List.replicate_zero, List.replicate_succ, List.getElem?_cons_zero, List.getElem?_cons_succ, List.set_cons_zero, List.set_cons_succ, List.append_nil, fmD, lk1, lk2, lk3, lk4, lk5, lk6, true_and, and_true, Nat.reduceLeDiff, decide_eq_true_eq]
  refine ⟨s, m, k, _, r, rfl, by omega, by omega, by omega, s, m, k, _, r, rfl, by omega, by omega, ?_⟩
  have hl2 : (rm r s m k (f.emin - (q : Int) + 1)).log2 ≤ 2 ^ 19 := by
    rcases hs with z | z
    · rw [z]; decide
    · omega
  have vb : ∀ z : Nat, Pp (D.lst [D.int (code f (f.make s (rm r s m k (f.emin - (q : Int) + 1)) (f.emin - (q : Int) + 1)) : Nat), D.int (z : Int)]) → ∃ (f_1 : Format) (s_1 : Bool) (m_1 : Nat) (k_1 : Int), [fmD f, D.int (sg s), D.int (rm r s m k (f.emin - (q : Int) + 1) : Nat), D.int (f.emin - (q : Int) + 1)] = [fmD f_1, D.int (sg s_1), D.int m_1, D.int k_1] ∧ m_1.log2 ≤ 2 ^ 19 ∧ -(2 ^ 19) ≤ k_1 ∧ k_1 ≤ 2 ^ 19 ∧ (m_1 = 0 ∨ (m_1.log2 : Int) + k_1 ≤ f_1.emax) ∧ Pp (D.lst [D.int (code f_1 (f_1.make s_1 m_1 k_1) : Nat), D.int (z : Int)]) := by
    intro z hz
    refine ⟨f, s, _, _, rfl, hl2, by omega, by omega, ?_, hz⟩
    rcases hs with z | z
    · exact .inl z
    · exact .inr (by omega)
  simp only [fmD] at vb
  unfold loss
  by_cases c : ex m k (f.emin - (q : Int) + 1) = true
  · rw [if_pos c] at hP ⊢
    rw [if_neg (by decide)]
    exact vb 0 hP
  · rw [if_neg c] at hP ⊢
    rw [if_pos (by have : (0 : Nat) < Ew.INEXACT := by decide
                   simp only [ne_true]; omega)]
    have := vb (Ew.UNDER + Ew.INEXACT + if fl m k (f.emin - (q : Int) + 1) < rm r s m k (f.emin - (q : Int) + 1) then Ew.UP else 0) hP
    simp only [Ew.UNDER] at this
    have e : (16 : Int) + ((Ew.INEXACT + if fl m k (f.emin - (q : Int) + 1) < rm r s m k (f.emin - (q : Int) + 1) then Ew.UP else 0 : Nat) : Int) = ((16 + Ew.INEXACT + if fl m k (f.emin - (q : Int) + 1) < rm r s m k (f.emin - (q : Int) + 1) then Ew.UP else 0 : Nat) : Int) := by omega
    rw [e]
    exact this
theorem rd_rounded_to : Rd T_rounded_to 6 3 C_rounded_to := by
  intro ds Pp hl h
  obtain ⟨f, s, m, k, q, r, rfl, hm, h1, h2, h3, h4, h5, hP⟩ := h
  have hb := fb_facts f
  obtain ⟨g1, g2, g3⟩ := rm_log h4 r s k hm
  unfold rnd at hP
  simp only [C_rounded_multiple, C_flags_of_loss, C_value_bits, C_overflowed, C_rounded_small, dSeq, dSet, dRet, dIfS, dNext, dOp, dVar, dC, dCall, dCons, dNil, dTest, dTruth, dTru, dAnd, dOr, dNot, dNotV, dAndV, dOrV, dIf, dNeg, dLst, dTup, dFld, dBitLen, dSl, dNoPart, dPart, oI0, oI, oEq, oNe, oIsN, oIx, oIn, oAdd, oSub, oMul, oDiv, oMod, oShl, oShr, oAndB, oOrB, oXorB, oPow, oLt, oLe, oGt, oGe, cAbs, cMin, cMax, List.map_cons, List.map_nil, List.cons_append, List.nil_append, List.length_cons, List.length_nil, Nat.zero_add, Nat.reduceAdd, Nat.reduceSub, List.replicate_zero, List.replicate_succ, List.getElem?_cons_zero, List.getElem?_cons_succ, List.set_cons_zero, List.set_cons_succ, List.append_nil, fmD, lk1, lk2, lk3, lk4, lk5, lk6, true_and, and_true, Nat.reduceLeDiff, decide_eq_true_eq]
  have hm0 : ¬ m = 0 := by omega
  have eu : ((Builtin.Int.intBits (m : Int) : Nat) : Int) + k - (q : Int) = unitOf q m k := by rw [bits_nat, if_neg hm0]; unfold unitOf; omega
  rw [eu]
  have hu1 : k - unitOf q m k ≤ 2 ^ 20 ∧ unitOf q m k - k ≤ 2 ^ 20 ∧ -(2 ^ 19) ≤ unitOf q m k ∧ unitOf q m k ≤ 2 ^ 19 + 1 := by unfold unitOf; omega
  refine ⟨s, m, k, _, r, rfl, by omega, hu1.1, hu1.2.1, ?_⟩
  have hR0 : ¬ rm r s m k (unitOf q m k) = 0 := by omega
  have et : ((Builtin.Int.intBits ((rm r s m k (unitOf q m k) : Nat) : Int) : Nat) : Int) - 1 + unitOf q m k = topR q r s m k := by
    rw [bits_nat, if_neg hR0, ← g3]; omega
  rw [et]
  by_cases c1 : f.emax < topR q r s m k
  · rw [if_pos c1] at hP ⊢
    exact ⟨f, s, q, r, rfl, h4, h5, hP⟩
  · rw [if_neg c1] at hP ⊢
    by_cases c2 : topR q r s m k < f.emin
    · rw [if_pos c2] at hP ⊢
      refine ⟨f, s, m, k, q, r, rfl, hm, h1, h2, h3, h4, h5, ?_, hP⟩
      have : (m.log2 : Int) + k ≤ topR q r s m k := by unfold topR; split <;> omega
      omega
    · rw [if_neg c2] at hP ⊢
      have hlq : (rm r s m k (unitOf q m k)).log2 ≤ 64 := by
        have := (Nat.pow_le_pow_iff_right (a := 2) (by decide)).mp (Nat.le_trans (log2_spec g1).1 g2)
        omega
      refine ⟨f, s, _, _, rfl, by omega, hu1.2.2.1, ?_, .inr (by omega), s, m, k, _, r, rfl, by omega, hu1.2.1, hP⟩
      omega
end UX

set_option Elab.async false
set_option linter.all false
set_option maxRecDepth 100000
namespace UX
open PySem PySem.Spec PyProof.Rows L2 DD MX
open Ew (Float_ Format Rounding)
/-! ### store -/
theorem kd_zero {x : Float_} (h : kd x = .zero) : x.frac = 0 := by
  rw [kd_eq] at h
  split at h
  · split at h
    · cases h
    · split at h
      · omega
      · cases h
  · split at h
    · cases h
    · split at h
      · cases h
      · split at h
        · cases h
        · split at h <;> cases h
end UX

set_option Elab.async false
set_option linter.all false
set_option maxRecDepth 100000
namespace MX
open Ew
/-! ### a finite number by its value -/
def isFin (x : Float_) : Prop := x.exp < 32767 ∧ (x.exp ≠ 0 → 2 ^ 63 ≤ x.frac) ∧ x.frac < 2 ^ 64
def canon (x : Float_) : Float_ := if x.exp = 0 ∧ 2 ^ 63 ≤ x.frac then ⟨x.sign, 1, x.frac⟩ else x
theorem k_eq (x : Float_) : Format.extended.k x = ((max x.exp 1 : Nat) : Int) - 16446 := by
  show ((max x.exp 1 : Nat) : Int) + (-16382) - 64 = _
  omega
theorem fin_exp {x : Float_} (h : isFin x) : (x.frac.log2 : Int) + Format.extended.k x ≤ 16383 := by
  rw [k_eq]
  have : x.frac.log2 ≤ 63 := by
    by_cases z : x.frac = 0
    · rw [z]; decide
    · have := (Nat.pow_lt_pow_iff_right (a := 2) (by decide)).mp (Nat.lt_of_le_of_lt (log2_spec (by omega)).1 h.2.2)
      omega
  have := h.1
  omega
theorem make_self {x : Float_} (h : isFin x) : Format.extended.make x.sign x.frac (Format.extended.k x) = canon x := by
  obtain ⟨h1, h2, h3⟩ := h
  unfold canon
  by_cases z : x.frac = 0
  · have e0 : x.exp = 0 := by
      by_cases c : x.exp = 0
      · exact c
      · have := h2 c; omega
    rw [z, make_zero, if_neg (by omega)]
    cases x; simp_all
  · have hm : 0 < x.frac := by omega
    have hl := log2_spec hm
    rw [make_eq .extended x.sign _ hm]
    have ek := k_eq x
    by_cases c : 2 ^ 63 ≤ x.frac
    · have lg : x.frac.log2 = 63 := log2_of c h3
      have last : lastOf .extended x.frac (Format.extended.k x) = Format.extended.k x := by
        unfold lastOf; rw [lg, ek]
        show max ((63 : Int) + _) (-16382) - 64 + 1 = _
        omega
      have hf : fl x.frac (Format.extended.k x) (Format.extended.k x) = x.frac := by unfold fl; rw [if_pos (Int.le_refl _)]; simp
      rw [last, hf]
      have he : expOf .extended x.frac (Format.extended.k x) = max x.exp 1 := by
        unfold expOf; rw [if_neg z, lg, ek]
        show (max ((63 : Int) + (((max x.exp 1 : Nat) : Int) - 16446) - (-16382) + 1) 0).toNat = _
        omega
      have hmod : x.frac % 2 ^ Format.extended.fracBits = x.frac := Nat.mod_eq_of_lt h3
      rw [he, hmod]
      by_cases c0 : x.exp = 0
      · rw [if_pos ⟨c0, c⟩, c0]; rfl
      · rw [if_neg (fun q => c0 q.1)]
        have : max x.exp 1 = x.exp := by omega
        rw [this]
    · have e0 : x.exp = 0 := by
        by_cases q : x.exp = 0
        · exact q
        · exact absurd (h2 q) c
      rw [if_neg (fun q => c q.2)]
      have lg : x.frac.log2 ≤ 62 := by
        have := (Nat.pow_lt_pow_iff_right (a := 2) (by decide)).mp (Nat.lt_of_le_of_lt hl.1 (Nat.lt_of_not_le c))
        omega
      have ek2 : Format.extended.k x = -16445 := by rw [ek, e0]; rfl
      have last : lastOf .extended x.frac (Format.extended.k x) = Format.extended.k x := by
        unfold lastOf; rw [ek2]
        show max ((x.frac.log2 : Int) + -16445) (-16382) - 64 + 1 = _
        omega
      have hf : fl x.frac (Format.extended.k x) (Format.extended.k x) = x.frac := by unfold fl; rw [if_pos (Int.le_refl _)]; simp
      rw [last, hf]
      have he : expOf .extended x.frac (Format.extended.k x) = 0 := by
        unfold expOf; rw [if_neg z, ek2]
        show (max ((x.frac.log2 : Int) + -16445 - (-16382) + 1) 0).toNat = _
        omega
      have hmod : x.frac % 2 ^ Format.extended.fracBits = x.frac := Nat.mod_eq_of_lt h3
      rw [he, hmod, ← e0]
/-- the exact value of a finite number, brought to a float -/
theorem ofRat_fin (r : Rounding) {x : Float_} (h : isFin x) : (Format.extended.ofRat 64 r x.sign (Ew.Unit.V x)).1 = canon x := by
  have hv := V_eq x
  by_cases z : x.frac = 0
  · have : Ew.Unit.V x = 0 := (rat_zero hv).mpr (sm_zero.mpr z)
    rw [this, ← make_self h, z]; rfl
  · have hl : x.frac.log2 < 64 := by
      have := (Nat.pow_lt_pow_iff_right (a := 2) (by decide)).mp (Nat.lt_of_le_of_lt (log2_spec (m := x.frac) (by omega)).1 h.2.2)
      omega
    have hk := k_eq x
    have := ofRat_exact .extended r x.sign (q := 64) hv (mt sm_zero.mp z) (by rw [sm_abs]; omega) (by rw [sm_abs]; exact fin_exp h) (fun q => by
      rw [sm_abs]
      unfold ex
      have : Format.extended.emin - (64 : Nat) + 1 ≤ Format.extended.k x := by rw [hk]; show (-16382 : Int) - 64 + 1 ≤ _; omega
      rw [decide_eq_true this]; rfl)
    rw [this, sm_abs, sm_neg (by omega), make_self h]
/-! ### the order of finite numbers -/
def nv (x : Float_) : Nat := x.frac * 2 ^ (max x.exp 1 - 1)
theorem V_nv (x : Float_) : Ew.Unit.V x = ((sm x.sign (nv x) : Int) : Rat) * two (-16445) := by
  rw [V_eq, k_eq]
  have e : ((max x.exp 1 : Nat) : Int) - 16446 = ((max x.exp 1 - 1 : Nat) : Int) + (-16445) := by omega
  rw [e, two_add, two_nat]
  have e2 : ((sm x.sign (nv x) : Int) : Rat) = ((sm x.sign x.frac : Int) : Rat) * ((2 ^ (max x.exp 1 - 1) : Nat) : Rat) := by
    have : sm x.sign (nv x) = sm x.sign x.frac * ((2 ^ (max x.exp 1 - 1) : Nat) : Int) := by
      unfold sm nv
      cases x.sign <;> simp [Int.neg_mul]
    rw [this, Rat.intCast_mul]; rfl
  rw [e2, Rat.mul_assoc]
def scode (x : Float_) : Nat := x.exp * 2 ^ 64 + x.frac
theorem canon_fin {x : Float_} (h : isFin x) : isFin (canon x) ∧ (canon x).sign = x.sign ∧ nv (canon x) = nv x ∧ ((canon x).exp = 0 → (canon x).frac < 2 ^ 63) := by
  unfold canon
  by_cases c : x.exp = 0 ∧ 2 ^ 63 ≤ x.frac
  · rw [if_pos c]
    refine ⟨⟨by show 1 < 32767; decide, fun _ => c.2, h.2.2⟩, rfl, ?_, fun q => absurd (show (1 : Nat) = 0 from q) (by decide)⟩
    unfold nv
    rw [c.1]; rfl
  · rw [if_neg c]
    exact ⟨h, rfl, rfl, fun q => by
      rcases Nat.lt_or_ge x.frac (2 ^ 63) with z | z
      · exact z
      · exact absurd ⟨q, z⟩ c⟩
theorem nv_lt {x y : Float_} (hx : isFin x) (hy : isFin y) (cx : x.exp = 0 → x.frac < 2 ^ 63) (cy : y.exp = 0 → y.frac < 2 ^ 63) (h : scode x < scode y) : nv x < nv y := by
  unfold scode at h
  unfold nv
  have fx := hx.2.2
  have fy := hy.2.2
  by_cases c : x.exp = y.exp
  · rw [c] at h ⊢
    exact Nat.mul_lt_mul_of_pos_right (by omega) (p2pos _)
  · have hlt : x.exp < y.exp := by omega
    have hy0 : y.exp ≠ 0 := by omega
    have gy := hy.2.1 hy0
    have e1 : max y.exp 1 - 1 = y.exp - 1 := by omega
    rw [e1]
    have ly : 2 ^ 63 * 2 ^ (y.exp - 1) ≤ y.frac * 2 ^ (y.exp - 1) := Nat.mul_le_mul_right _ gy
    by_cases c0 : x.exp = 0
    · have l := cx c0
      have e2 : max x.exp 1 - 1 = 0 := by omega
      rw [e2, Nat.pow_zero, Nat.mul_one]
      have : 2 ^ 63 * 1 ≤ 2 ^ 63 * 2 ^ (y.exp - 1) := Nat.mul_le_mul_left _ (p2pos _)
      omega
    · have e2 : max x.exp 1 - 1 = x.exp - 1 := by omega
      rw [e2]
      have l1 : x.frac * 2 ^ (x.exp - 1) < 2 ^ 64 * 2 ^ (x.exp - 1) := Nat.mul_lt_mul_of_pos_right fx (p2pos _)
      have l2 : 2 ^ 64 * 2 ^ (x.exp - 1) = 2 ^ 63 * 2 ^ x.exp := by
        rw [← Nat.pow_add, ← Nat.pow_add]; congr 1; omega
      have l3 : 2 ^ 63 * 2 ^ x.exp ≤ 2 ^ 63 * 2 ^ (y.exp - 1) := Nat.mul_le_mul_left _ (Nat.pow_le_pow_right (by decide) (by omega))
      omega
theorem nv_eq {x y : Float_} (h : scode x = scode y) (fx : x.frac < 2 ^ 64) (fy : y.frac < 2 ^ 64) : nv x = nv y := by
  unfold scode at h
  have h1 : x.exp = y.exp := by omega
  have h2 : x.frac = y.frac := by omega
  unfold nv; rw [h1, h2]
theorem V_lt {x y : Float_} : Ew.Unit.V x < Ew.Unit.V y ↔ sm x.sign (nv x) < sm y.sign (nv y) := by
  rw [V_nv, V_nv, Rat.mul_lt_mul_right (two_pos _), Rat.intCast_lt_intCast]
theorem V_eq_iff {x y : Float_} : Ew.Unit.V x = Ew.Unit.V y ↔ sm x.sign (nv x) = sm y.sign (nv y) := by
  rw [V_nv, V_nv]
  constructor
  · intro h
    have h2 := congrArg (· * (two 16445)) h
    simp only [Rat.mul_assoc, ← two_add] at h2
    have e : (-16445 + 16445 : Int) = 0 := by decide
    rw [e, two_zero, Rat.mul_one, Rat.mul_one] at h2
    exact Rat.intCast_inj.mp h2
  · intro h; rw [h]
end MX

set_option Elab.async false
set_option linter.all false
set_option maxRecDepth 100000
namespace UX
open PySem PySem.Spec PyProof.Rows L2 DD MX
open Ew (Float_ Format Rounding)
/-! ### numbers that are numbers -/
def absX (x : Float_) : Float_ := { x with sign := false }
def byV (x : Float_) : Float_ := if kd x = .infinite then x else canon x
def C_is_small : DCt := fun ds P => ∃ x : Float_, ds = [numD x] ∧ P (.bl (Ew.Unit.isSmall x))
def C_exponent_of : DCt := fun ds P => ∃ x : Float_, ds = [numD x] ∧ 0 < x.frac ∧ P (.int ((x.frac.log2 : Int) + Format.extended.k x))
def C_turned : DCt := fun ds P => ∃ x : Float_, ds = [.int (code .extended x : Nat)] ∧ OkE x ∧ P (.int (code .extended (Ew.Unit.flip x) : Nat))
def C_without_sign : DCt := fun ds P => ∃ x : Float_, ds = [.int (code .extended x : Nat)] ∧ OkE x ∧ P (.int (code .extended (absX x) : Nat))
def C_zero_bits : DCt := fun ds P => ∃ s : Bool, ds = [.int (sg s)] ∧ P (.int (code .extended (Format.extended.zero s) : Nat))
def C_bits_by_value : DCt := fun ds P => ∃ x : Float_, ds = [numD x] ∧ OkE x ∧ (kd x).none_ = false ∧ P (.int (code .extended (byV x) : Nat))
def C_rounded : DCt := fun ds P => ∃ (s : Bool) (m : Nat) (k : Int) (q : Nat) (r : Rounding), ds = [.int (sg s), .int m, .int k, .int q, .int (rn r)] ∧ 0 < m ∧ m.log2 ≤ 2 ^ 18 ∧ -(2 ^ 18) ≤ k ∧ k ≤ 2 ^ 18 ∧ 1 ≤ q ∧ q ≤ 64 ∧ P (tld .extended (rnd .extended q r s m k))
def C_with_small_told : DCt := fun ds P => ∃ (pre : List D) (fl : Nat) (l : List Float_), ds = [.lst (pre ++ [.int fl]), .lst (nums l)] ∧ (pre.length = 1 ∨ pre.length = 2) ∧ l.length ≤ 2 ∧ (((fl = 1 ∨ fl = 4) ∧ P (.lst (pre ++ [.int fl]))) ∨ (fl % 8 = 0 ∧ P (.lst (pre ++ [.int ((Ew.Unit.smallIn l + fl : Nat) : Int)]))))
def C_order_bits : DCt := fun ds P => ∃ a b : Int, ds = [.int a, .int b] ∧ P (.int (if a = b then 8 else if b < a then 0 else 1))
def rankOf (x : Float_) : Int := sm x.sign (code .extended (absX (byV x)))
def C_rank : DCt := fun ds P => ∃ x : Float_, ds = [numD x] ∧ OkE x ∧ (kd x).none_ = false ∧ P (.int (rankOf x))
def C_compared : DCt := fun ds P => ∃ a b : Float_, ds = [numD a, numD b] ∧ OkE a ∧ OkE b ∧ P (.lst [.int ((Ew.Unit.com false a b).1 : Nat), .int ((Ew.Unit.com false a b).2 : Nat)])
@[reducible] def T_is_small : DS := (dRet (dOp (oIn false) (dFld (dVar 0) "Number" "kind") (dTup (dCons (dC (.str "small")) (dCons (dC (.str "nearly small")) dNil)))))
@[reducible] def T_exponent_of : DS := (dRet (dOp oAdd (dOp oSub (dBitLen (dFld (dVar 0) "Number" "significand")) (dC (.int 1))) (dFld (dVar 0) "Number" "power")))
@[reducible] def T_turned : DS := (dRet (dOp oXorB (dVar 0) (dOp oShl (dC (.int 1)) (dC (.int 79)))))
@[reducible] def T_without_sign : DS := (dRet (dOp oAndB (dVar 0) (dOp oSub (dOp oShl (dC (.int 1)) (dC (.int 79))) (dC (.int 1)))))
@[reducible] def T_zero_bits : DS := (dRet (dCall (fun ds P => ds.length = 4 ∧ C_joined ds P) (dCons (dCall (fun ds P => ds.length = 0 ∧ C_extended_format ds P) dNil) (dCons (dVar 0) (dCons (dC (.int 0)) (dCons (dC (.int 0)) dNil))))))
@[reducible] def T_bits_by_value : DS := (dSeq (dIfS (dTest (dOp oEq (dFld (dVar 0) "Number" "kind") (dC (.str "infinite")))) (dRet (dFld (dVar 0) "Number" "bits")) dNext)
  (dRet (dCall (fun ds P => ds.length = 3 ∧ C_finite_bits ds P) (dCons (dFld (dVar 0) "Number" "sign") (dCons (dFld (dVar 0) "Number" "significand") (dCons (dFld (dVar 0) "Number" "power") dNil))))))
@[reducible] def T_rounded : DS := (dRet (dCall (fun ds P => ds.length = 6 ∧ C_rounded_to ds P) (dCons (dCall (fun ds P => ds.length = 0 ∧ C_extended_format ds P) dNil) (dCons (dVar 0) (dCons (dVar 1) (dCons (dVar 2) (dCons (dVar 3) (dCons (dVar 4) dNil))))))))
@[reducible] def T_with_small_told : DS := (dSeq (dSet 2 (dOp oIx (dVar 0) (dNeg (dC (.int 1)))))
  (dSeq (dIfS (dAnd (dTest (dOp oEq (dOp oAndB (dVar 2) (dOp oOrB (dC (.int 1)) (dC (.int 4)))) (dC (.int 0)))) (dTruth (dCall cAny (dCons (dLcF 3 (dVar 1) dYes (dCall (fun ds P => ds.length = 1 ∧ C_is_small ds P) (dCons (dVar 3) dNil))) dNil)))) (dSet 2 (dOp oAdd (dVar 2) (dC (.int 2)))) dNext)
  (dRet (dOp oAdd (dSl (dVar 0) dNoPart (dPart (dNeg (dC (.int 1))))) (dLst (dCons (dVar 2) dNil))))))
@[reducible] def T_order_bits : DS := (dSeq (dIfS (dTest (dOp oEq (dVar 0) (dVar 1))) (dRet (dC (.int 8))) dNext)
  (dRet (dIf (dTest (dOp oGt (dVar 0) (dVar 1))) (dC (.int 0)) (dC (.int 1)))))
@[reducible] def T_rank : DS := (dSeq (dSet 1 (dCall (fun ds P => ds.length = 1 ∧ C_without_sign ds P) (dCons (dCall (fun ds P => ds.length = 1 ∧ C_bits_by_value ds P) (dCons (dVar 0) dNil)) dNil)))
  (dRet (dIf (dTruth (dFld (dVar 0) "Number" "sign")) (dNeg (dVar 1)) (dVar 1))))
@[reducible] def T_compared : DS := (dSeq (dIfS (dOr (dTruth (dCall (fun ds P => ds.length = 1 ∧ C_is_no_number ds P) (dCons (dVar 0) dNil))) (dTruth (dCall (fun ds P => ds.length = 1 ∧ C_is_no_number ds P) (dCons (dVar 1) dNil)))) (dRet (dLst (dCons (dC (.int 13)) (dCons (dC (.int 1)) dNil)))) dNext)
  (dRet (dCall (fun ds P => ds.length = 2 ∧ C_with_small_told ds P) (dCons (dLst (dCons (dCall (fun ds P => ds.length = 2 ∧ C_order_bits ds P) (dCons (dCall (fun ds P => ds.length = 1 ∧ C_rank ds P) (dCons (dVar 0) dNil)) (dCons (dCall (fun ds P => ds.length = 1 ∧ C_rank ds P) (dCons (dVar 1) dNil)) dNil))) (dCons (dC (.int 0)) dNil))) (dCons (dLst (dCons (dVar 0) (dCons (dVar 1) dNil))) dNil)))))
theorem rd_is_small : Rd T_is_small 1 0 C_is_small := by
  intro ds Pp hl h
  obtain ⟨x, rfl, hP⟩ := h
  simp only [dSeq, dSet, dRet, dIfS, dNext, dOp, dVar, dC, dCall, dCons, dNil, dTest, dTruth, dTru, dAnd, dOr, dNot, dNotV, dAndV, dOrV, dIf, dNeg, dLst, dTup, dFld, dBitLen, dSl, dNoPart, dPart, oI0, oI, oEq, oNe, oIsN, oIx, oIn, oAdd, oSub, oMul, oDiv, oMod, oShl, oShr, oAndB, oOrB, oXorB, oPow, oLt, oLe, oGt, oGe, cAbs, cMin, cMax, List.map_cons, List.map_nil, List.cons_append, List.nil_append, List.length_cons, List.length_nil, Nat.zero_add, Nat.reduceAdd, Nat.reduceSub, List.replicate_zero, List.replicate_succ, List.getElem?_cons_zero, List.getElem?_cons_succ, List.set_cons_zero, List.set_cons_succ, List.append_nil, fmD, numD, nk1, nk2, nk3, nk4, nk5, lk1, lk2, lk3, lk4, lk5, lk6, true_and, and_true, Nat.reduceLeDiff, decide_eq_true_eq]
  refine ⟨rfl, rfl, ?_⟩
  have e : Ew.Unit.isSmall x = (kd x == .small || kd x == .nearly) := rfl
  rw [e] at hP
  cases hk : kd x <;> rw [hk] at hP <;> exact hP
theorem rd_exponent_of : Rd T_exponent_of 1 0 C_exponent_of := by
  intro ds Pp hl h
  obtain ⟨x, rfl, hx, hP⟩ := h
  simp only [dSeq, dSet, dRet, dIfS, dNext, dOp, dVar, dC, dCall, dCons, dNil, dTest, dTruth, dTru, dAnd, dOr, dNot, dNotV, dAndV, dOrV, dIf, dNeg, dLst, dTup, dFld, dBitLen, dSl, dNoPart, dPart, oI0, oI, oEq, oNe, oIsN, oIx, oIn, oAdd, oSub, oMul, oDiv, oMod, oShl, oShr, oAndB, oOrB, oXorB, oPow, oLt, oLe, oGt, oGe, cAbs, cMin, cMax, List.map_cons, List.map_nil, List.cons_append, List.nil_append, List.length_cons, List.length_nil, Nat.zero_add, Nat.reduceAdd, Nat.reduceSub, List.replicate_zero, List.replicate_succ, List.getElem?_cons_zero, List.getElem?_cons_succ, List.set_cons_zero, List.set_cons_succ, List.append_nil, fmD, numD, nk1, nk2, nk3, nk4, nk5, lk1, lk2, lk3, lk4, lk5, lk6, true_and, and_true, Nat.reduceLeDiff, decide_eq_true_eq]
  have : ((Builtin.Int.intBits (x.frac : Int) : Nat) : Int) - 1 + Format.extended.k x = (x.frac.log2 : Int) + Format.extended.k x := by
    rw [bits_nat, if_neg (by omega)]; omega
  rw [this]; exact hP
theorem and_sign {x : Float_} (hx : OkE x) : Builtin.bitAnd ((code .extended x : Nat) : Int) ((2 ^ 79 : Nat) : Int) = (((if x.sign = true then 1 else 0) * 2 ^ 79 : Nat) : Int) := by
  rw [and_nat, and_bit, (code_hi hx).1]
  cases x.sign <;> rfl
theorem code_flip {x : Float_} (hx : OkE x) : Builtin.bitXor ((code .extended x : Nat) : Int) ((2 ^ 79 : Nat) : Int) = ((code .extended (Ew.Unit.flip x) : Nat) : Int) := by
  rw [PyProof.Rows.bitXor_and, and_sign hx]
  have e1 : code .extended x = ((if x.sign = true then 2 ^ 15 else 0) + x.exp) * 2 ^ 64 + x.frac := rfl
  have e2 : code .extended (Ew.Unit.flip x) = ((if (!x.sign) = true then 2 ^ 15 else 0) + x.exp) * 2 ^ 64 + x.frac := rfl
  rw [e1, e2]
  cases x.sign
  · simp only [Bool.false_eq_true, if_false, Bool.not_false, if_true]; omega
  · simp only [if_true, Bool.not_true, Bool.false_eq_true, if_false]; omega
theorem rd_turned : Rd T_turned 1 0 C_turned := by
  intro ds Pp hl h
  obtain ⟨x, rfl, hx, hP⟩ := h
  simp only [dSeq, dSet, dRet, dIfS, dNext, dOp, dVar, dC, dCall, dCons, dNil, dTest, dTruth, dTru, dAnd, dOr, dNot, dNotV, dAndV, dOrV, dIf, dNeg, dLst, dTup, dFld, dBitLen, dSl, dNoPart, dPart, oI0, oI, oEq, oNe, oIsN, oIx, oIn, oAdd, oSub, oMul, oDiv, oMod, oShl, oShr, oAndB, oOrB, oXorB, oPow, oLt, oLe, oGt, oGe, cAbs, cMin, cMax, List.map_cons, List.map_nil, List.cons_append, List.nil_append, List.length_cons, List.length_nil, Nat.zero_add, Nat.reduceAdd, Nat.reduceSub, List.replicate_zero, List.replicate_succ, List.getElem?_cons_zero, List.getElem?_cons_succ, List.set_cons_zero, List.set_cons_succ, List.append_nil, fmD, numD, nk1, nk2, nk3, nk4, nk5, lk1, lk2, lk3, lk4, lk5, lk6, true_and, and_true, Nat.reduceLeDiff, decide_eq_true_eq]
  refine ⟨shl_one (by decide) (by decide), ?_⟩
  have e : (1 * 2 ^ (79 : Int).toNat : Int) = ((2 ^ 79 : Nat) : Int) := rfl
  rw [e, code_flip hx]; exact hP
theorem code_abs {x : Float_} (hx : OkE x) : code .extended x % 2 ^ 79 = code .extended (absX x) := by
  have hf : x.frac < 2 ^ 64 := hx.frac
  have he : x.exp < 2 ^ 15 := hx.exp
  have e1 : code .extended x = ((if x.sign = true then 2 ^ 15 else 0) + x.exp) * 2 ^ 64 + x.frac := rfl
  have e2 : code .extended (absX x) = (0 + x.exp) * 2 ^ 64 + x.frac := rfl
  rw [e1, e2]
  cases x.sign
  · simp only [Bool.false_eq_true, if_false]; omega
  · simp only [if_true]; omega
theorem rd_without_sign : Rd T_without_sign 1 0 C_without_sign := by
  intro ds Pp hl h
  obtain ⟨x, rfl, hx, hP⟩ := h
  simp only [dSeq, dSet, dRet, dIfS, dNext, dOp, dVar, dC, dCall, dCons, dNil, dTest, dTruth, dTru, dAnd, dOr, dNot, dNotV, dAndV, dOrV, dIf, dNeg, dLst, dTup, dFld, dBitLen, dSl, dNoPart, dPart, oI0, oI, oEq, oNe, oIsN, oIx, oIn, oAdd, oSub, oMul, oDiv, oMod, oShl, oShr, oAndB, oOrB, oXorB, oPow, oLt, oLe, oGt, oGe, cAbs, cMin, cMax, List.map_cons, List.map_nil, List.cons_append, List.nil_append, List.length_cons, List.length_nil, Nat.zero_add, Nat.reduceAdd, Nat.reduceSub, List.replicate_zero, List.replicate_succ, List.getElem?_cons_zero, List.getElem?_cons_succ, List.set_cons_zero, List.set_cons_succ, List.append_nil, fmD, numD, nk1, nk2, nk3, nk4, nk5, lk1, lk2, lk3, lk4, lk5, lk6, true_and, and_true, Nat.reduceLeDiff, decide_eq_true_eq]
  refine ⟨shl_one (by decide) (by decide), ?_⟩
  have e : (1 * 2 ^ (79 : Int).toNat - 1 : Int) = ((2 ^ 79 : Nat) : Int) - 1 := rfl
  rw [e, mask_nat, code_abs hx]; exact hP
theorem rd_zero_bits : Rd T_zero_bits 1 0 C_zero_bits := by
  intro ds Pp hl h
  obtain ⟨s, rfl, hP⟩ := h
  exact ⟨rfl, rfl, rfl, .extended, s, 0, 0, rfl, by decide, hP⟩
theorem fin_of {x : Float_} (hx : OkE x) (hk : (kd x).finite = true) : isFin x := by
  have hf : x.frac < 2 ^ 64 := hx.frac
  have he : x.exp < 2 ^ 15 := hx.exp
  have h := kd_eq x
  refine ⟨?_, ?_, hf⟩
  · rcases Nat.lt_or_ge x.exp 32767 with z | z
    · exact z
    · exfalso
      rw [if_neg (by omega)] at h
      by_cases c : 2 ^ 63 ≤ x.frac
      · rw [if_neg (by omega), if_neg (by omega)] at h
        split at h
        · rw [h] at hk; cases hk
        · split at h <;> rw [h] at hk <;> cases hk
      · rw [if_pos c] at h
        rw [h] at hk; cases hk
  · intro h0
    rcases Nat.lt_or_ge x.frac (2 ^ 63) with z | z
    · exfalso
      rw [if_neg h0, if_pos (by omega)] at h
      rw [h] at hk; cases hk
    · exact z
theorem fin_or {x : Float_} (h : (kd x).none_ = false) : kd x = .infinite ∨ (kd x).finite = true := by
  revert h
  cases kd x <;> simp [Ew.Kind.none_, Ew.Kind.finite]
theorem rd_bits_by_value : Rd T_bits_by_value 1 0 C_bits_by_value := by
  intro ds Pp hl h
  obtain ⟨x, rfl, hx, hn, hP⟩ := h
  unfold byV at hP
  simp only [C_finite_bits, dSeq, dSet, dRet, dIfS, dNext, dOp, dVar, dC, dCall, dCons, dNil, dTest, dTruth, dTru, dAnd, dOr, dNot, dNotV, dAndV, dOrV, dIf, dNeg, dLst, dTup, dFld, dBitLen, dSl, dNoPart, dPart, oI0, oI, oEq, oNe, oIsN, oIx, oIn, oAdd, oSub, oMul, oDiv, oMod, oShl, oShr, oAndB, oOrB, oXorB, oPow, oLt, oLe, oGt, oGe, cAbs, cMin, cMax, List.map_cons, List.map_nil, List.cons_append, List.nil_append, List.length_cons, List.length_nil, Nat.zero_add, Nat.reduceAdd, Nat.reduceSub, List.replicate_zero, List.replicate_succ, List.getElem?_cons_zero, List.getElem?_cons_succ, List.set_cons_zero, List.set_cons_succ, List.append_nil, fmD, numD, nk1, nk2, nk3, nk4, nk5, lk1, lk2, lk3, lk4, lk5, lk6, true_and, and_true, Nat.reduceLeDiff, decide_eq_true_eq]
  have hk := k_bnd hx
  have hfl := frac_log hx
  by_cases c : kd x = .infinite
  · rw [if_pos c] at hP
    rw [if_pos (by rw [c]; rfl)]; exact hP
  · rw [if_neg c] at hP
    rw [if_neg (by intro q; apply c; revert q; cases kd x <;> decide)]
    have hf := fin_of hx ((fin_or hn).resolve_left c)
    rw [← make_self hf] at hP
    exact ⟨x.sign, x.frac, _, rfl, by omega, by omega, by omega, .inr (fin_exp hf), hP⟩
theorem rd_rounded : Rd T_rounded 5 0 C_rounded := by
  intro ds Pp hl h
  obtain ⟨s, m, k, q, r, rfl, h0, h1, h2, h3, h4, h5, hP⟩ := h
  exact ⟨rfl, rfl, rfl, .extended, s, m, k, q, r, rfl, h0, h1, h2, h3, h4, h5, hP⟩
theorem and5 (n : Nat) : n &&& 5 = n % 8 &&& 5 := by
  have h : (7 : Nat) &&& 5 = 5 := rfl
  have h2 : n % 8 = n &&& 7 := (Nat.and_two_pow_sub_one_eq_mod n 3).symm
  rw [h2, Nat.and_assoc, h]
theorem lcF_small {ρ : En} {i : Nat} {P : List D → Prop} {T : DT} (hT : ∀ (x : Float_) (Q : D → Prop), Q (.bl (Ew.Unit.isSmall x)) → T (ρ.set i (some (numD x))) Q) : ∀ (l : List Float_) (acc : List D), P (acc ++ l.map fun x => D.bl (Ew.Unit.isSmall x)) → lcF i dYes T ρ (nums l) acc P
  | [], acc, h => by
    show P acc
    simpa [nums] using h
  | x :: l, acc, h => by
    show if true = true then T (ρ.set i (some (numD x))) (fun y => flatD y = true ∧ lcF i dYes T ρ (nums l) (acc ++ [y]) P) else lcF i dYes T ρ (nums l) acc P
    rw [if_pos rfl]
    refine hT x _ ⟨rfl, lcF_small hT l _ ?_⟩
    simpa using h
theorem blsOf_small : ∀ l : List Float_, blsOf (l.map fun x => D.bl (Ew.Unit.isSmall x)) = some (l.map Ew.Unit.isSmall)
  | [] => rfl
  | a :: l => by
    show (blsOf (l.map fun x => D.bl (Ew.Unit.isSmall x))).map _ = _
    rw [blsOf_small l]; rfl
theorem last_pre {pre : List D} {x : D} (h : pre.length = 1 ∨ pre.length = 2) : atI (pre ++ [x]) (-1) = some x ∧ DD.cutD (pre ++ [x]) none (some (-1)) = pre := by
  match pre, h with
  | [a], _ => exact ⟨rfl, rfl⟩
  | [a, b], _ => exact ⟨rfl, rfl⟩
  | [], h => simp at h
  | a :: b :: c :: r, h => simp at h
theorem rd_with_small_told : Rd T_with_small_told 2 2 C_with_small_told := by
  intro ds Pp hl h
  obtain ⟨pre, fl, l, rfl, hp, h2, hP⟩ := h
  obtain ⟨e1, e2⟩ := last_pre (x := .int (fl : Int)) hp
  have hlen : (nums l).length ≤ 1000 := by simp [nums]; omega
  have hb : Builtin.bitAnd (fl : Int) (Builtin.bitOr 1 4) = ((fl % 8 &&& 5 : Nat) : Int) := by
    have : Builtin.bitOr 1 4 = ((5 : Nat) : Int) := rfl
    rw [this, and_nat, and5]
  simp only [e1, e2, hb, dNeg, dSeq, dSet, dRet, dIfS, dNext, dOp, dVar, dC, dCall, dCons, dNil, dTest, dTruth, dTru, dAnd, dOr, dNot, dNotV, dAndV, dOrV, dIf, dNeg, dLst, dTup, dFld, dBitLen, dSl, dNoPart, dPart, oI0, oI, oEq, oNe, oIsN, oIx, oIn, oAdd, oSub, oMul, oDiv, oMod, oShl, oShr, oAndB, oOrB, oXorB, oPow, oLt, oLe, oGt, oGe, cAbs, cMin, cMax, List.map_cons, List.map_nil, List.cons_append, List.nil_append, List.length_cons, List.length_nil, Nat.zero_add, Nat.reduceAdd, Nat.reduceSub, List.replicate_zero, List.replicate_succ, List.getElem?_cons_zero, List.getElem?_cons_succ, List.set_cons_zero, List.set_cons_succ, List.append_nil, fmD, numD, nk1, nk2, nk3, nk4, nk5, lk1, lk2, lk3, lk4, lk5, lk6, true_and, and_true, Nat.reduceLeDiff, decide_eq_true_eq]
  have h3 : pre.length ≤ 999 := by omega
  rcases hP with ⟨hf, hP⟩ | ⟨hf, hP⟩
  · have : ¬ ((fl % 8 &&& 5 : Nat) : Int) = 0 := by rcases hf with rfl | rfl <;> decide
    rw [if_neg this, if_neg (by decide)]
    exact ⟨h3, hP⟩
  · rw [hf, if_pos (by rfl)]
    refine ⟨hlen, lcF_small (fun x Q hQ => ⟨rfl, x, rfl, hQ⟩) l [] ?_⟩
    rw [List.nil_append]
    simp only [cAny, blsOf_small]
    have e3 : (l.map Ew.Unit.isSmall).any id = l.any Ew.Unit.isSmall := by rw [List.any_map]; rfl
    rw [e3]
    unfold Ew.Unit.smallIn at hP
    by_cases c : l.any Ew.Unit.isSmall = true
    · rw [if_pos c] at hP
      rw [if_pos c]
      have : ((Ew.SMALL + fl : Nat) : Int) = (fl : Int) + 2 := by show ((2 + fl : Nat) : Int) = _; omega
      rw [this] at hP
      exact ⟨h3, hP⟩
    · rw [if_neg c] at hP
      rw [if_neg c]
      rw [Nat.zero_add] at hP
      exact ⟨h3, hP⟩
theorem rd_order_bits : Rd T_order_bits 2 0 C_order_bits := by
  intro ds Pp hl h
  obtain ⟨a, b, rfl, hP⟩ := h
  simp only [dSeq, dSet, dRet, dIfS, dNext, dOp, dVar, dC, dCall, dCons, dNil, dTest, dTruth, dTru, dAnd, dOr, dNot, dNotV, dAndV, dOrV, dIf, dNeg, dLst, dTup, dFld, dBitLen, dSl, dNoPart, dPart, oI0, oI, oEq, oNe, oIsN, oIx, oIn, oAdd, oSub, oMul, oDiv, oMod, oShl, oShr, oAndB, oOrB, oXorB, oPow, oLt, oLe, oGt, oGe, cAbs, cMin, cMax, List.map_cons, List.map_nil, List.cons_append, List.nil_append, List.length_cons, List.length_nil, Nat.zero_add, Nat.reduceAdd, Nat.reduceSub, List.replicate_zero, List.replicate_succ, List.getElem?_cons_zero, List.getElem?_cons_succ, List.set_cons_zero, List.set_cons_succ, List.append_nil, fmD, numD, nk1, nk2, nk3, nk4, nk5, lk1, lk2, lk3, lk4, lk5, lk6, true_and, and_true, Nat.reduceLeDiff, decide_eq_true_eq]
  by_cases c : a = b
  · rw [if_pos c] at hP ⊢; exact hP
  · rw [if_neg c] at hP ⊢
    by_cases c2 : b < a
    · rw [if_pos c2] at hP ⊢; exact hP
    · rw [if_neg c2] at hP ⊢; exact hP
theorem canon_ok {x : Float_} (h : isFin x) : OkE (canon x) := by
  have := (canon_fin h).1
  exact ⟨Nat.lt_trans this.1 (by decide), this.2.2⟩
theorem byV_ok {x : Float_} (hx : OkE x) (hn : (kd x).none_ = false) : OkE (byV x) ∧ (byV x).sign = x.sign := by
  unfold byV
  by_cases c : kd x = .infinite
  · rw [if_pos c]; exact ⟨hx, rfl⟩
  · rw [if_neg c]
    have hf := fin_of hx ((fin_or hn).resolve_left c)
    exact ⟨canon_ok hf, (canon_fin hf).2.1⟩
theorem rd_rank : Rd T_rank 1 1 C_rank := by
  intro ds Pp hl h
  obtain ⟨x, rfl, hx, hn, hP⟩ := h
  have hok := byV_ok hx hn
  unfold rankOf at hP
  simp only [C_bits_by_value, C_without_sign, dSeq, dSet, dRet, dIfS, dNext, dOp, dVar, dC, dCall, dCons, dNil, dTest, dTruth, dTru, dAnd, dOr, dNot, dNotV, dAndV, dOrV, dIf, dNeg, dLst, dTup, dFld, dBitLen, dSl, dNoPart, dPart, oI0, oI, oEq, oNe, oIsN, oIx, oIn, oAdd, oSub, oMul, oDiv, oMod, oShl, oShr, oAndB, oOrB, oXorB, oPow, oLt, oLe, oGt, oGe, cAbs, cMin, cMax, List.map_cons, List.map_nil, List.cons_append, List.nil_append, List.length_cons, List.length_nil, Nat.zero_add, Nat.reduceAdd, Nat.reduceSub, List.replicate_zero, List.replicate_succ, List.getElem?_cons_zero, List.getElem?_cons_succ, List.set_cons_zero, List.set_cons_succ, List.append_nil, fmD, numD, nk1, nk2, nk3, nk4, nk5, lk1, lk2, lk3, lk4, lk5, lk6, true_and, and_true, Nat.reduceLeDiff, decide_eq_true_eq]
  refine ⟨x, rfl, hx, hn, byV x, rfl, hok.1, ?_⟩
  cases hs : x.sign
  · rw [hs] at hP
    simp only [sm, Bool.false_eq_true, if_false] at hP
    rw [if_neg (by simp [sg])]; exact hP
  · rw [hs] at hP
    simp only [sm, if_true] at hP
    rw [if_pos (by simp [sg])]; exact hP
theorem code_absX (x : Float_) : code .extended (absX x) = scode x := by
  show (0 + x.exp) * 2 ^ 64 + x.frac = _
  unfold scode; omega
theorem sm_iso {A B N M : Nat} (h1 : A < B ↔ N < M) (h2 : B < A ↔ M < N) (h3 : A = 0 ↔ N = 0) (h4 : B = 0 ↔ M = 0) (s t : Bool) : (sm s A < sm t B ↔ sm s N < sm t M) ∧ (sm s A = sm t B ↔ sm s N = sm t M) := by
  cases s <;> cases t <;> simp only [sm, Bool.false_eq_true, if_false, if_true] <;> omega
theorem fin_iso {x y : Float_} (hx : isFin x) (hy : isFin y) : (scode (canon x) < scode (canon y) ↔ nv x < nv y) := by
  obtain ⟨x1, x2, x3, x4⟩ := canon_fin hx
  obtain ⟨y1, y2, y3, y4⟩ := canon_fin hy
  rw [← x3, ← y3]
  constructor
  · exact nv_lt x1 y1 x4 y4
  · intro h
    rcases Nat.lt_trichotomy (scode (canon x)) (scode (canon y)) with c | c | c
    · exact c
    · have := nv_eq c x1.2.2 y1.2.2; omega
    · have := nv_lt y1 x1 y4 x4 c; omega
theorem fin_zero {x : Float_} (hx : isFin x) : (scode (canon x) = 0 ↔ nv x = 0) := by
  have h0 : isFin (⟨false, 0, 0⟩ : Float_) := ⟨by decide, fun q => absurd rfl q, by decide⟩
  have := fin_iso h0 hx
  have e1 : scode (canon ⟨false, 0, 0⟩) = 0 := rfl
  have e2 : nv ⟨false, 0, 0⟩ = 0 := rfl
  rw [e1, e2] at this
  omega
theorem inf_kd {x : Float_} (hx : OkE x) (h : kd x = .infinite) : x.exp = 32767 ∧ x.frac = 2 ^ 63 := by
  have hf : x.frac < 2 ^ 64 := hx.frac
  have he : x.exp < 2 ^ 15 := hx.exp
  rw [kd_eq] at h
  split at h
  · split at h
    · cases h
    · split at h <;> cases h
  · split at h
    · cases h
    · split at h
      · cases h
      · split at h
        · omega
        · split at h <;> cases h
theorem fin_lt_inf {x : Float_} (hx : isFin x) : scode (canon x) < 32767 * 2 ^ 64 + 2 ^ 63 := by
  have h := (canon_fin hx).1
  have h1 := h.1
  have h2 := h.2.2
  unfold scode
  omega
theorem rank_com {a b : Float_} (ha : OkE a) (hb : OkE b) (na : (kd a).none_ = false) (nb : (kd b).none_ = false) : (Ew.Unit.com false a b) = (if rankOf a = rankOf b then 8 else if rankOf b < rankOf a then 0 else 1, Ew.Unit.smallIn [a, b]) := by
  have ka : Format.extended.kind a = kd a := rfl
  have kb : Format.extended.kind b = kd b := rfl
  have key : Ew.compared .extended a .extended b = if rankOf a = rankOf b then 1 else if rankOf b < rankOf a then 2 else 0 := by
    unfold Ew.compared
    rw [ka, kb, if_neg (by rw [na, nb]; simp)]
    simp only [ka, kb]
    unfold rankOf
    rw [code_absX, code_absX]
    unfold byV
    rcases fin_or na with ia | fa <;> rcases fin_or nb with ib | fb
    · rw [ia, ib]
      have h1 := inf_kd ha ia
      have h2 := inf_kd hb ib
      have e1 : scode a = 32767 * 2 ^ 64 + 2 ^ 63 := by unfold scode; rw [h1.1, h1.2]
      have e2 : scode b = 32767 * 2 ^ 64 + 2 ^ 63 := by unfold scode; rw [h2.1, h2.2]
      rw [if_pos rfl, if_pos rfl, if_pos rfl, if_pos rfl, e1, e2]
      have hW : 0 < 32767 * 2 ^ 64 + 2 ^ 63 := by omega
      generalize 32767 * 2 ^ 64 + 2 ^ 63 = W at hW
      cases a.sign <;> cases b.sign <;> simp only [sm, Bool.false_eq_true, if_false, if_true]
      · rfl
      · rw [if_pos (by decide), if_neg (by decide), if_neg (by omega), if_pos (by omega)]
      · rw [if_pos (by decide), if_pos (by decide), if_neg (by omega), if_neg (by omega)]
      · rfl
    · have cb : kd b ≠ .infinite := by intro q; rw [q] at fb; cases fb
      have hl := fin_lt_inf (fin_of hb fb)
      have h1 := inf_kd ha ia
      have e1 : scode a = 32767 * 2 ^ 64 + 2 ^ 63 := by unfold scode; rw [h1.1, h1.2]
      rw [ia, if_pos rfl, if_pos rfl, if_neg cb, if_neg cb, e1]
      have hW : 0 < 32767 * 2 ^ 64 + 2 ^ 63 := by omega
      clear e1 h1
      generalize scode (canon b) = B at *
      generalize 32767 * 2 ^ 64 + 2 ^ 63 = W at hW hl ⊢
      cases a.sign <;> cases b.sign <;> simp only [sm, Bool.false_eq_true, if_false, if_true]
      · rw [if_pos (by decide), if_neg (by decide), if_neg (by omega), if_pos (by omega)]
      · rw [if_pos (by decide), if_neg (by decide), if_neg (by omega), if_pos (by omega)]
      · rw [if_pos (by decide), if_pos (by decide), if_neg (by omega), if_neg (by omega)]
      · rw [if_pos (by decide), if_pos (by decide), if_neg (by omega), if_neg (by omega)]
    · have ca : kd a ≠ .infinite := by intro q; rw [q] at fa; cases fa
      have hl := fin_lt_inf (fin_of ha fa)
      have h1 := inf_kd hb ib
      have e1 : scode b = 32767 * 2 ^ 64 + 2 ^ 63 := by unfold scode; rw [h1.1, h1.2]
      rw [ib, if_pos rfl, if_pos rfl, if_neg ca, if_neg ca, e1]
      have hW : 0 < 32767 * 2 ^ 64 + 2 ^ 63 := by omega
      clear e1 h1
      generalize scode (canon a) = A at *
      generalize 32767 * 2 ^ 64 + 2 ^ 63 = W at hW hl ⊢
      cases a.sign <;> cases b.sign <;> simp only [sm, Bool.false_eq_true, if_false, if_true]
      · rw [if_pos (by decide), if_pos (by decide), if_neg (by omega), if_neg (by omega)]
      · rw [if_pos (by decide), if_neg (by decide), if_neg (by omega), if_pos (by omega)]
      · rw [if_pos (by decide), if_pos (by decide), if_neg (by omega), if_neg (by omega)]
      · rw [if_pos (by decide), if_neg (by decide), if_neg (by omega), if_pos (by omega)]
    · have ca : kd a ≠ .infinite := by intro q; rw [q] at fa; cases fa
      have cb : kd b ≠ .infinite := by intro q; rw [q] at fb; cases fb
      have hfa := fin_of ha fa
      have hfb := fin_of hb fb
      have iso := sm_iso (fin_iso hfa hfb) (fin_iso hfb hfa) (fin_zero hfa) (fin_zero hfb) a.sign b.sign
      rw [if_neg ca, if_neg cb, if_neg ca, if_neg cb]
      have e0 : ¬ ((0 : Int) ≠ 0) := by decide
      rw [if_neg e0, if_neg e0]
      have va : Format.extended.value a = Ew.Unit.V a := rfl
      have vb : Format.extended.value b = Ew.Unit.V b := rfl
      rw [va, vb]
      simp only [V_lt, V_eq_iff, ← iso.1, ← iso.2]
      generalize sm a.sign (scode (canon a)) = A
      generalize sm b.sign (scode (canon b)) = B
      by_cases c1 : A < B
      · rw [if_pos c1, if_neg (by omega), if_neg (by omega)]
      · rw [if_neg c1]
        by_cases c2 : A = B
        · rw [if_pos c2, if_pos c2]
        · rw [if_neg c2, if_neg c2, if_pos (by omega)]
  unfold Ew.Unit.com
  have e : Ew.compared Ew.Unit.E a Ew.Unit.E b = Ew.compared .extended a .extended b := rfl
  rw [e, key]
  by_cases c1 : rankOf a = rankOf b
  · simp only [if_pos c1]; rfl
  · simp only [if_neg c1]
    by_cases c2 : rankOf b < rankOf a
    · simp only [if_pos c2]; rfl
    · simp only [if_neg c2]; rfl
theorem com_none {a b : Float_} (h : (kd a).none_ = true ∨ (kd b).none_ = true) : Ew.Unit.com false a b = (13, 1) := by
  unfold Ew.Unit.com
  have e : Ew.compared Ew.Unit.E a Ew.Unit.E b = 3 := by
    unfold Ew.compared
    have ka : Ew.Unit.E.kind a = kd a := rfl
    have kb : Ew.Unit.E.kind b = kd b := rfl
    rw [ka, kb, if_pos h]
  rw [e]; rfl
theorem rd_compared : Rd T_compared 2 0 C_compared := by
  intro ds Pp hl h
  obtain ⟨a, b, rfl, ha, hb, hP⟩ := h
  simp only [C_is_no_number, C_rank, C_order_bits, C_with_small_told, dSeq, dSet, dRet, dIfS, dNext, dOp, dVar, dC, dCall, dCons, dNil, dTest, dTruth, dTru, dAnd, dOr, dNot, dNotV, dAndV, dOrV, dIf, dNeg, dLst, dTup, dFld, dBitLen, dSl, dNoPart, dPart, oI0, oI, oEq, oNe, oIsN, oIx, oIn, oAdd, oSub, oMul, oDiv, oMod, oShl, oShr, oAndB, oOrB, oXorB, oPow, oLt, oLe, oGt, oGe, cAbs, cMin, cMax, List.map_cons, List.map_nil, List.cons_append, List.nil_append, List.length_cons, List.length_nil, Nat.zero_add, Nat.reduceAdd, Nat.reduceSub, List.replicate_zero, List.replicate_succ, List.getElem?_cons_zero, List.getElem?_cons_succ, List.set_cons_zero, List.set_cons_succ, List.append_nil, fmD, numD, nk1, nk2, nk3, nk4, nk5, lk1, lk2, lk3, lk4, lk5, lk6, true_and, and_true, Nat.reduceLeDiff, decide_eq_true_eq]
  refine ⟨a, rfl, ?_⟩
  cases na : (kd a).none_
  · rw [if_neg (by decide)]
    refine ⟨b, rfl, ?_⟩
    cases nb : (kd b).none_
    · rw [if_neg (by decide)]
      rw [rank_com ha hb na nb] at hP
      refine ⟨a, rfl, ha, na, b, rfl, hb, nb, _, _, rfl, ?_⟩
      refine ⟨[.int (if rankOf a = rankOf b then 8 else if rankOf b < rankOf a then 0 else 1)], 0, [a, b], rfl, .inl rfl, by show 2 ≤ 2; decide, .inr ⟨rfl, ?_⟩⟩
      have e : ((if rankOf a = rankOf b then 8 else if rankOf b < rankOf a then 0 else 1 : Nat) : Int) = (if rankOf a = rankOf b then 8 else if rankOf b < rankOf a then 0 else 1 : Int) := by
        split
        · rfl
        · split <;> rfl
      rw [e] at hP
      exact hP
    · rw [if_pos rfl]
      rw [com_none (.inr nb)] at hP
      exact hP
  · rw [if_pos rfl, if_pos trivial]
    rw [com_none (.inl na)] at hP
    exact hP
end UX

set_option Elab.async false
set_option linter.all false
set_option maxRecDepth 100000
namespace UX
open PySem PySem.Spec PyProof.Rows L2 DD MX
open Ew (Float_ Format Rounding Kind)
end UX

set_option Elab.async false
set_option linter.all false
set_option maxRecDepth 100000
namespace UX
open PySem PySem.Spec PyProof.Rows L2 DD MX
open Ew (Float_ Format Rounding)
theorem mul_small {i j : Int} (h : Builtin.Int.intBits j ≤ 60) : CMulB i j := by
  unfold CMulB IntMulOk
  have : decide (Builtin.Int.intBits j > shortFactorBits) = false := by
    apply decide_eq_false
    intro q
    have : (60 : Nat) ≤ shortFactorBits := by decide
    omega
  rw [this]; simp
theorem mul_small' {i j : Int} (h : Builtin.Int.intBits i ≤ 60) : CMulB i j := by
  unfold CMulB IntMulOk
  have : decide (Builtin.Int.intBits i > shortFactorBits) = false := by
    apply decide_eq_false
    intro q
    have : (60 : Nat) ≤ shortFactorBits := by decide
    omega
  rw [this]; simp
theorem div_ok {i j : Int} (h0 : 0 < j) (h : Builtin.Int.intBits j ≤ 900) : CDivB i j := by
  refine ⟨h0, ?_⟩
  unfold Builtin.divisionGoesByPylong
  have e : (j == 0) = false := by simp; omega
  have : decide ((if (j == 0) = true then 0 else j.natAbs.log2 / 30 + 1) > 300) = false := by
    apply decide_eq_false
    rw [e]
    unfold Builtin.Int.intBits at h
    rw [e] at h
    simp at h ⊢
    omega
  simp only [this, Bool.false_and]
end UX

set_option Elab.async false
set_option linter.all false
set_option maxRecDepth 100000
namespace UX
open PySem PySem.Spec PyProof.Rows L2 DD MX
open Ew (Float_ Format Rounding)
/-! ### one -/
def kb : Ew.Kind → Nat
  | .odd => 0
  | .quiet => 1
  | .loud => 1
  | .normal => 4
  | .infinite => 5
  | .zero => 8
  | _ => 12
theorem k_hi {x : Float_} (h : OkE x) : x.frac.log2 ≤ 63 := by
  by_cases z : x.frac = 0
  · rw [z]; decide
  · have := (Nat.pow_lt_pow_iff_right (a := 2) (by decide)).mp (Nat.lt_of_le_of_lt (log2_spec (m := x.frac) (by omega)).1 (show x.frac < 2 ^ 64 from h.frac))
    omega
/-! flags of what was rounded -/
/-- what small operands add -/
theorem small_told {t : Float_ × Nat} {l : List Float_} {Pp : D → Prop} {u : Float_ × Nat} (hl : l.length ≤ 2) (h : ((t.2 = 1 ∨ t.2 = 4) ∧ u = t) ∨ (t.2 % 8 = 0 ∧ u = (t.1, Ew.Unit.smallIn l + t.2))) (hP : Pp (tld .extended u)) : C_with_small_told [tld .extended t, .lst (nums l)] Pp := by
  refine ⟨[.int (code .extended t.1 : Nat)], t.2, l, rfl, .inl rfl, hl, ?_⟩
  rcases h with ⟨h1, rfl⟩ | ⟨h1, rfl⟩
  · exact .inl ⟨h1, hP⟩
  · exact .inr ⟨h1, hP⟩
theorem told_mod (q : Nat) (r : Rounding) (s : Nat) (e : Ew.Unit.Exact) (hv : ∀ v z, e = .value v z → (Format.extended.ofRat q r z v).2 % 8 = 0) (hr : ∀ v, e = .root v → (Format.extended.rounded q r false ⟨v.num.natAbs, v.den, true⟩).2 % 8 = 0) :
    (((Ew.Unit.told q r 0 e).2 = 1 ∨ (Ew.Unit.told q r 0 e).2 = 4) ∧ Ew.Unit.told q r s e = Ew.Unit.told q r 0 e) ∨ ((Ew.Unit.told q r 0 e).2 % 8 = 0 ∧ Ew.Unit.told q r s e = ((Ew.Unit.told q r 0 e).1, s + (Ew.Unit.told q r 0 e).2)) := by
  cases e with
  | invalid => exact .inl ⟨.inl rfl, rfl⟩
  | byZero x => exact .inl ⟨.inr rfl, rfl⟩
  | is x => exact .inr ⟨rfl, rfl⟩
  | value v z =>
    right
    have := hv v z rfl
    refine ⟨?_, ?_⟩
    · show (0 + (Format.extended.ofRat q r z v).2) % 8 = 0
      rw [Nat.zero_add]; exact this
    · show ((Format.extended.ofRat q r z v).1, s + (Format.extended.ofRat q r z v).2) = ((Format.extended.ofRat q r z v).1, s + (0 + (Format.extended.ofRat q r z v).2))
      rw [Nat.zero_add]
  | root v =>
    right
    have := hr v rfl
    refine ⟨?_, ?_⟩
    · show (0 + (Format.extended.rounded q r false ⟨v.num.natAbs, v.den, true⟩).2) % 8 = 0
      rw [Nat.zero_add]; exact this
    · show ((Format.extended.rounded q r false ⟨v.num.natAbs, v.den, true⟩).1, s + (Format.extended.rounded q r false ⟨v.num.natAbs, v.den, true⟩).2) = ((Format.extended.rounded q r false ⟨v.num.natAbs, v.den, true⟩).1, s + (0 + (Format.extended.rounded q r false ⟨v.num.natAbs, v.den, true⟩).2))
      rw [Nat.zero_add]
theorem rounded_mod (f : Format) (q : Nat) (r : Rounding) (s : Bool) (x : Ew.Size) : (f.rounded q r s x).2 % 8 = 0 := by
  unfold Format.rounded
  dsimp only
  generalize (if x.multiple r s (x.top - (q : Int) + 1) = 2 ^ q then x.top + 1 else x.top) = T
  split
  · split <;> simp [Ew.OVER, Ew.INEXACT, Ew.UP]
  · split
    · dsimp only
      split
      · rfl
      · split <;> simp [Ew.UNDER, Ew.INEXACT, Ew.UP]
    · dsimp only
      split
      · rfl
      · split <;> simp [Ew.INEXACT, Ew.UP]
theorem ofRat_mod (f : Format) (q : Nat) (r : Rounding) (z : Bool) (v : Rat) : (f.ofRat q r z v).2 % 8 = 0 := by
  unfold Format.ofRat
  split
  · rfl
  · exact rounded_mod ..
end UX

set_option Elab.async false
set_option linter.all false
set_option maxRecDepth 100000
namespace UX
open PySem PySem.Spec PyProof.Rows L2 DD MX
open Ew (Float_ Format Rounding)
theorem topOf_V {x : Float_} (h : 0 < x.frac) : Ew.Unit.topOf (Ew.Unit.V x) = (x.frac.log2 : Int) + Format.extended.k x := by
  unfold Ew.Unit.topOf
  have I := is_of (V_eq x)
  rw [sm_abs] at I
  exact top_eq I h
theorem prec_num (q : Wrxtbb.Prec) : WrxtbbNeutral.prec? (q.digits : Nat) = some q := by cases q <;> rfl
theorem prec_le (q : Wrxtbb.Prec) : 1 ≤ q.digits ∧ q.digits ≤ 64 := by cases q <;> decide
end UX

set_option Elab.async false
set_option linter.all false
set_option maxRecDepth 100000
namespace MX
open Ew
/-! ### sizes that are not m 2^k, told by more digits than are kept -/
structure Like (x : Size) (m : Nat) (k c : Int) : Prop where
  flr : ∀ u, c ≤ u → x.floorAt u = fl m k u
  exa : ∀ u, c ≤ u → x.exactAt u = ex m k u
  top : x.top = (m.log2 : Int) + k
  lt : k < c
theorem multiple_like {x : Size} {m : Nat} {k c u : Int} (L : Like x m k c) (r : Rounding) (s : Bool) (h : c + 1 ≤ u) : x.multiple r s u = rm r s m k u := by
  have := L.lt
  exact multiple_of r s (by omega) (L.flr u (by omega)) (L.flr (u - 1) (by omega)) (L.exa u (by omega)) (L.exa (u - 1) (by omega))
theorem rounded_like (f : Format) (q : Nat) (r : Rounding) (s : Bool) {x : Size} {m : Nat} {k c : Int} (L : Like x m k c) (h : c + 1 ≤ unitOf q m k) : f.rounded q r s x = rnd f q r s m k := by
  have e1 := multiple_like L r s h
  have e2 := L.flr _ (Int.le_trans (by omega) h)
  have e3 := L.exa _ (Int.le_trans (by omega) h)
  unfold Format.rounded rnd
  simp only [L.top]
  have eu : (m.log2 : Int) + k - (q : Int) + 1 = unitOf q m k := rfl
  rw [eu, e1, e2, e3]
  have et : (if rm r s m k (unitOf q m k) = 2 ^ q then (m.log2 : Int) + k + 1 else (m.log2 : Int) + k) = topR q r s m k := rfl
  rw [et]
  by_cases c1 : f.emax < topR q r s m k
  · rw [if_pos c1, if_pos c1]; rfl
  · rw [if_neg c1, if_neg c1]
    by_cases c2 : topR q r s m k < f.emin
    · rw [if_pos c2, if_pos c2]
      have hj : c + 1 ≤ f.emin - (q : Int) + 1 := by
        have : (m.log2 : Int) + k ≤ topR q r s m k := by unfold topR; split <;> omega
        unfold unitOf at h
        omega
      have g1 := multiple_like L r s hj
      have g2 := L.flr (f.emin - (q : Int) + 1) (by omega)
      have g3 := L.exa (f.emin - (q : Int) + 1) (by omega)
      rw [g1, g2, g3]; rfl
    · rw [if_neg c2, if_neg c2]; rfl
/-! ### quotients -/
theorem div_cross {a b z y : Nat} (hb : 0 < b) (hy : 0 < y) (h : a * y = z * b) : a / b = z / y := by
  rw [← Nat.mul_div_mul_right a b hy, h, Nat.mul_comm b y, Nat.mul_div_mul_right z y hb]
theorem mod_cross {a b z y : Nat} (hb : 0 < b) (hy : 0 < y) (h : a * y = z * b) : (a / b * b = a) ↔ z % y = 0 := by
  have e := div_cross hb hy h
  rw [e]
  have dm := Nat.div_add_mod z y
  constructor
  · intro q
    have h2 : z / y * y * b = z * b := by rw [← h, ← q]; simp only [Nat.mul_assoc, Nat.mul_comm, Nat.mul_left_comm]
    have h3 := Nat.eq_of_mul_eq_mul_right hb h2
    rw [Nat.mul_comm] at h3
    omega
  · intro q
    apply Nat.eq_of_mul_eq_mul_right hy
    rw [h]
    have : z / y * y = z := by rw [Nat.mul_comm]; omega
    calc z / y * b * y = z / y * y * b := by simp only [Nat.mul_assoc, Nat.mul_comm, Nat.mul_left_comm]
      _ = z * b := by rw [this]
structure Is2 (x : Size) (A B : Nat) (k : Int) : Prop where
  root : x.root = false
  den : 0 < x.den
  pos : 0 < B
  eq : x.num * 2 ^ (-k).toNat * B = A * 2 ^ k.toNat * x.den
theorem over2 {x : Size} {A B : Nat} {k : Int} (I : Is2 x A B k) (u : Int) : (x.over u).1 * (B * 2 ^ (u - k).toNat) = A * 2 ^ (k - u).toNat * (x.over u).2 := by
  rw [over_fst x I.root, over_snd x I.root]
  have h := I.eq
  apply Nat.eq_of_mul_eq_mul_right (p2pos ((-k).toNat))
  have e1 : x.num * 2 ^ (-u).toNat * (B * 2 ^ (u - k).toNat) * 2 ^ (-k).toNat = (x.num * 2 ^ (-k).toNat * B) * 2 ^ ((-u).toNat + (u - k).toNat) := by
    rw [Nat.pow_add]; simp only [Nat.mul_assoc, Nat.mul_comm, Nat.mul_left_comm]
  have e2 : A * 2 ^ (k - u).toNat * (x.den * 2 ^ u.toNat) * 2 ^ (-k).toNat = A * x.den * 2 ^ ((k - u).toNat + u.toNat + (-k).toNat) := by
    rw [Nat.pow_add, Nat.pow_add]; simp only [Nat.mul_assoc, Nat.mul_comm, Nat.mul_left_comm]
  rw [e1, e2, h]
  have e3 : (k - u).toNat + u.toNat + (-k).toNat = k.toNat + ((-u).toNat + (u - k).toNat) := by omega
  rw [e3, Nat.pow_add 2 k.toNat]
  generalize 2 ^ ((-u).toNat + (u - k).toNat) = zz
  simp only [Nat.mul_assoc, Nat.mul_comm, Nat.mul_left_comm]
theorem snd_pos {x : Size} (hr : x.root = false) (hd : 0 < x.den) (u : Int) : 0 < (x.over u).2 := by
  rw [over_snd x hr]; exact Nat.mul_pos hd (p2pos _)
theorem floor2 {x : Size} {A B : Nat} {k : Int} (I : Is2 x A B k) (u : Int) : x.floorAt u = A * 2 ^ (k - u).toNat / (B * 2 ^ (u - k).toNat) := by
  unfold Size.floorAt
  simp only [I.root]
  exact div_cross (snd_pos I.root I.den u) (Nat.mul_pos I.pos (p2pos _)) (over2 I u)
theorem exact2 {x : Size} {A B : Nat} {k : Int} (I : Is2 x A B k) (u : Int) : x.exactAt u = decide (A * 2 ^ (k - u).toNat % (B * 2 ^ (u - k).toNat) = 0) := by
  have h := mod_cross (snd_pos I.root I.den u) (Nat.mul_pos I.pos (p2pos _)) (over2 I u)
  unfold Size.exactAt
  simp only [I.root]
  have e : x.floorAt u = (x.over u).1 / (x.over u).2 := by unfold Size.floorAt; simp only [I.root]; rfl
  show (x.floorAt u * (x.over u).2 == (x.over u).1) = _
  rw [e, Bool.eq_iff_iff]
  simpa using h
theorem top_gen {x : Size} (hr : x.root = false) (hd : 0 < x.den) (hn : 0 < x.num) (T : Int) (ge : ∀ u, 1 ≤ x.floorAt u ↔ u ≤ T) : x.top = T := by
  have flo : ∀ u, x.floorAt u = x.num * 2 ^ (-u).toNat / (x.den * 2 ^ u.toNat) := by
    intro u
    unfold Size.floorAt
    simp only [hr]
    show (x.over u).1 / (x.over u).2 = _
    rw [over_fst x hr, over_snd x hr]
  have h1 : x.den * 2 ^ T.toNat ≤ x.num * 2 ^ (-T).toNat := by
    have := (ge T).mpr (Int.le_refl T)
    rw [flo, Nat.le_div_iff_mul_le (Nat.mul_pos hd (p2pos _))] at this
    omega
  have h2 : x.num * 2 ^ (-(T + 1)).toNat < x.den * 2 ^ (T + 1).toNat := by
    have h3 := mt (ge (T + 1)).mp (by omega)
    rw [flo, Nat.le_div_iff_mul_le (Nat.mul_pos hd (p2pos _))] at h3
    omega
  have l1 : x.den.log2 + T.toNat ≤ x.num.log2 + (-T).toNat := by
    have a := log2_mul hd T.toNat
    have b := log2_mul hn (-T).toNat
    have c := (log2_spec (Nat.mul_pos hd (p2pos T.toNat))).1
    have d := (log2_spec (Nat.mul_pos hn (p2pos (-T).toNat))).2
    rw [a] at c
    rw [b] at d
    have := (Nat.pow_lt_pow_iff_right (a := 2) (by decide)).mp (Nat.lt_of_le_of_lt (Nat.le_trans c h1) d)
    omega
  have l2 : x.num.log2 + (-(T + 1)).toNat ≤ x.den.log2 + (T + 1).toNat := by
    have a := log2_mul hn (-(T + 1)).toNat
    have b := log2_mul hd (T + 1).toNat
    have c := (log2_spec (Nat.mul_pos hn (p2pos (-(T + 1)).toNat))).1
    have d := (log2_spec (Nat.mul_pos hd (p2pos (T + 1).toNat))).2
    rw [a] at c
    rw [b] at d
    have := (Nat.pow_lt_pow_iff_right (a := 2) (by decide)).mp (Nat.lt_of_le_of_lt c (Nat.lt_trans h2 d))
    omega
  unfold Size.top
  simp only [hr, ge, Bool.false_eq_true, if_false]
  split <;> try omega
  all_goals (split <;> try omega)
  all_goals (split <;> try omega)
theorem fl_ge {m : Nat} {k : Int} (hm : 0 < m) (u : Int) : 1 ≤ fl m k u ↔ u ≤ (m.log2 : Int) + k := by
  unfold fl
  by_cases c : u ≤ k
  · rw [if_pos c]
    have := Nat.mul_pos hm (p2pos (k - u).toNat)
    constructor
    · intro _; omega
    · intro _; omega
  · rw [if_neg c, div_pos_iff hm]
    omega
/-- a whole number with a digit more that tells a rest -/
def mark (Q : Nat) (b : Bool) : Nat := 2 * Q + (if b = true then 1 else 0)
theorem mark_fl (Q : Nat) (b : Bool) {c u : Int} (h : c ≤ u) : fl (mark Q b) (c - 1) u = Q / 2 ^ (u - c).toNat := by
  unfold fl mark
  rw [if_neg (by omega)]
  have e : (u - (c - 1)).toNat = 1 + (u - c).toNat := by omega
  rw [e, Nat.pow_add, Nat.pow_one, ← Nat.div_div_eq_div_mul]
  congr 1
  split <;> omega
theorem mark_ex (Q : Nat) (b : Bool) {c u : Int} (h : c ≤ u) : ex (mark Q b) (c - 1) u = (!b && decide (Q % 2 ^ (u - c).toNat = 0)) := by
  unfold ex mark
  have c1 : decide (u ≤ c - 1) = false := by simp; omega
  rw [c1, Bool.false_or]
  have e : (u - (c - 1)).toNat = 1 + (u - c).toNat := by omega
  rw [e, Nat.pow_add, Nat.pow_one, Nat.mod_mul]
  cases b
  · simp only [Bool.false_eq_true, if_false, Nat.add_zero, Bool.not_false, Bool.true_and]
    have e1 : 2 * Q % 2 = 0 := by omega
    have e2 : 2 * Q / 2 = Q := by omega
    rw [e1, e2, Bool.eq_iff_iff]
    simp
    omega
  · simp only [if_true, Bool.not_true, Bool.false_and]
    have e1 : (2 * Q + 1) % 2 = 1 := by omega
    rw [e1]
    simp
theorem div_like {x : Size} {A B : Nat} {k : Int} (I : Is2 x A B k) (S : Nat) (hA : 0 < A) (hQ : 0 < A * 2 ^ S / B) : Like x (mark (A * 2 ^ S / B) (decide (A * 2 ^ S % B ≠ 0))) (k - S - 1) (k - S) := by
  have hB := I.pos
  have key : ∀ u : Int, k - S ≤ u → A * 2 ^ (k - u).toNat * (B * 2 ^ (u - (k - S)).toNat) = A * 2 ^ S * (B * 2 ^ (u - k).toNat) := by
    intro u hu
    have e1 : A * 2 ^ (k - u).toNat * (B * 2 ^ (u - (k - S)).toNat) = A * B * 2 ^ ((k - u).toNat + (u - (k - S)).toNat) := by
      rw [Nat.pow_add]; simp only [Nat.mul_assoc, Nat.mul_comm, Nat.mul_left_comm]
    have e2 : A * 2 ^ S * (B * 2 ^ (u - k).toNat) = A * B * 2 ^ (S + (u - k).toNat) := by
      rw [Nat.pow_add]; simp only [Nat.mul_assoc, Nat.mul_comm, Nat.mul_left_comm]
    rw [e1, e2]
    congr 2
    omega
  have fl1 : ∀ u, k - S ≤ u → x.floorAt u = A * 2 ^ S / B / 2 ^ (u - (k - S)).toNat := by
    intro u hu
    rw [floor2 I, Nat.div_div_eq_div_mul]
    exact div_cross (Nat.mul_pos hB (p2pos _)) (Nat.mul_pos hB (p2pos _)) (key u hu)
  have hm : 0 < mark (A * 2 ^ S / B) (decide (A * 2 ^ S % B ≠ 0)) := by unfold mark; omega
  have flr : ∀ u, k - S ≤ u → x.floorAt u = fl (mark (A * 2 ^ S / B) (decide (A * 2 ^ S % B ≠ 0))) (k - S - 1) u := by
    intro u hu
    rw [fl1 u hu, mark_fl _ _ hu]
  refine ⟨flr, ?_, ?_, by omega⟩
  · intro u hu
    rw [exact2 I, mark_ex _ _ hu]
    have h1 : A * 2 ^ (k - u).toNat % (B * 2 ^ (u - k).toNat) = 0 ↔ A * 2 ^ S % (B * 2 ^ (u - (k - S)).toNat) = 0 := by
      have p1 := Nat.mul_pos hB (p2pos (u - k).toNat)
      have p2 := Nat.mul_pos hB (p2pos (u - (k - S)).toNat)
      have := mod_cross p1 p2 (key u hu)
      rw [← this]
      have dm := Nat.div_add_mod (A * 2 ^ (k - u).toNat) (B * 2 ^ (u - k).toNat)
      rw [Nat.mul_comm] at dm
      omega
    rw [Bool.eq_iff_iff]
    simp only [decide_eq_true_eq, Bool.and_eq_true, Bool.not_eq_true', decide_eq_false_iff_not, Decidable.not_not]
    rw [h1, Nat.mod_mul]
    constructor
    · intro h
      have h2 : A * 2 ^ S % B = 0 := by omega
      refine ⟨h2, ?_⟩
      have h3 : B * (A * 2 ^ S / B % 2 ^ (u - (k - S)).toNat) = 0 := by omega
      rcases Nat.mul_eq_zero.mp h3 with z | z
      · omega
      · exact z
    · rintro ⟨h2, h3⟩
      rw [h2, h3]; simp
  · have hn : 0 < x.num := by
      have h := I.eq
      have : 0 < A * 2 ^ k.toNat * x.den := Nat.mul_pos (Nat.mul_pos hA (p2pos _)) I.den
      rw [← h] at this
      exact Nat.pos_of_mul_pos_right (Nat.pos_of_mul_pos_right this)
    refine top_gen I.root I.den hn _ fun u => ?_
    by_cases hu : k - S ≤ u
    · rw [flr u hu, fl_ge hm]
    · have hT : k - S ≤ ((mark (A * 2 ^ S / B) (decide (A * 2 ^ S % B ≠ 0))).log2 : Int) + (k - S - 1) := by
        rw [← fl_ge hm, mark_fl _ _ (Int.le_refl _)]
        simp; omega
      constructor
      · intro _; omega
      · intro _
        rw [floor2 I]
        have e0 : (u - k).toNat = 0 := by omega
        rw [e0, Nat.pow_zero, Nat.mul_one, Nat.le_div_iff_mul_le hB]
        have h1 : B ≤ A * 2 ^ S := by
          have := (Nat.div_pos_iff (a := A * 2 ^ S) (b := B)).mp hQ
          exact this.2
        have h2 : 2 ^ S ≤ 2 ^ (k - u).toNat := Nat.pow_le_pow_right (by decide) (by omega)
        have h3 := Nat.mul_le_mul_left A h2
        omega
end MX

set_option Elab.async false
set_option linter.all false
set_option maxRecDepth 100000
namespace MX
open Ew
/-! ### the whole root -/
/-! Newton's steps -/
/-! ### a root's digits -/
/-- x is the root of m 2^k; k - P is even -/
structure IsR (x : Size) (m : Nat) (k : Int) : Prop where
  root : x.root = true
  den : 0 < x.den
  eq : x.num * 2 ^ (-k).toNat = m * 2 ^ k.toNat * x.den
end MX

set_option Elab.async false
set_option linter.all false
set_option maxRecDepth 100000
namespace UX
open PySem PySem.Spec PyProof.Rows L2 DD MX
open Ew (Float_ Format Rounding)
/-! ### the root -/
def C_with_rest_marked : DCt := fun ds P => ∃ (w rest : Nat), ds = [.int w, .int rest] ∧ w.log2 ≤ 2 ^ 20 ∧ P (.int (mark w (decide (rest ≠ 0)) : Nat))
@[reducible] def T_with_rest_marked : DS := (dRet (dOp oAdd (dOp oMul (dC (.int 2)) (dVar 0)) (dIf (dTruth (dVar 1)) (dC (.int 1)) (dC (.int 0)))))
theorem mul_ok {i j : Int} (h1 : Builtin.Int.intBits i ≤ 100000) (h2 : Builtin.Int.intBits j ≤ 100000) : CMulB i j := by
  unfold CMulB IntMulOk
  have : Builtin.Int.intTooBig ((Builtin.Int.intBits i : Int) + (Builtin.Int.intBits j : Int)) = false := by
    unfold Builtin.Int.intTooBig
    apply decide_eq_false
    have : (200000 : Nat) ≤ bitsLine := by decide
    omega
  rw [this]; simp
theorem bits_le {m n : Nat} (h : m < 2 ^ n) : Builtin.Int.intBits (m : Int) ≤ n + 1 := by
  rw [bits_nat]
  split
  · omega
  · have := log2_lt' h
    omega
theorem rd_with_rest_marked : Rd T_with_rest_marked 2 0 C_with_rest_marked := by
  intro ds Pp hl h
  obtain ⟨w, rest, rfl, h1, hP⟩ := h
  unfold mark at hP
  simp only [dSeq, dSet, dRet, dIfS, dNext, dOp, dVar, dC, dCall, dCons, dNil, dTest, dTruth, dTru, dAnd, dOr, dNot, dNotV, dAndV, dOrV, dIf, dNeg, dLst, dTup, dFld, dBitLen, dSl, dNoPart, dPart, oI0, oI, oEq, oNe, oIsN, oIx, oIn, oAdd, oSub, oMul, oDiv, oMod, oShl, oShr, oAndB, oOrB, oXorB, oPow, oLt, oLe, oGt, oGe, cAbs, cMin, cMax, List.map_cons, List.map_nil, List.cons_append, List.nil_append, List.length_cons, List.length_nil, Nat.zero_add, Nat.reduceAdd, Nat.reduceSub, List.replicate_zero, List.replicate_succ, List.getElem?_cons_zero, List.getElem?_cons_succ, List.set_cons_zero, List.set_cons_succ, List.append_nil, fmD, numD, nk1, nk2, nk3, nk4, nk5, lk1, lk2, lk3, lk4, lk5, lk6, true_and, and_true, Nat.reduceLeDiff, decide_eq_true_eq]
  refine ⟨mul_small' (by decide), ?_⟩
  by_cases c : rest = 0
  · rw [if_neg (by simp [c])] at hP
    rw [if_neg (by simp [c])]
    have : (2 * (w : Int) + 0) = ((2 * w + 0 : Nat) : Int) := by omega
    rw [this]; exact hP
  · rw [if_pos (by simp [c])] at hP
    rw [if_pos (by simp [c])]
    have : (2 * (w : Int) + 1) = ((2 * w + 1 : Nat) : Int) := by omega
    rw [this]; exact hP
theorem empty_code : ((code .extended Format.extended.empty : Nat) : Int) = 1208921207928610747318272 := by decide +kernel
theorem inv_tld : tld .extended (Format.extended.empty, 1) = D.lst [D.int 1208921207928610747318272, D.int 1] := by
  unfold tld
  rw [empty_code]; rfl
theorem prec_of {q : Int} (h : q = 24 ∨ q = 53 ∨ q = 64) : ∃ p : Wrxtbb.Prec, q = ((p.digits : Nat) : Int) := by
  rcases h with rfl | rfl | rfl
  · exact ⟨.p24, rfl⟩
  · exact ⟨.p53, rfl⟩
  · exact ⟨.p64, rfl⟩
end UX

set_option Elab.async false
set_option linter.all false
set_option maxRecDepth 100000
namespace MX
open Ew
/-! ### sums, products, quotients as whole numbers -/
theorem sm_mul (s : Bool) (m n : Nat) : sm s (m * n) = sm s m * (n : Int) := by
  unfold sm
  cases s <;> simp [Int.neg_mul]
theorem two_shift {k p : Int} (h : p ≤ k) : two k = ((2 ^ (k - p).toNat : Nat) : Rat) * two p := by
  have e : k = (((k - p).toNat : Nat) : Int) + p := by omega
  have e2 : two k = two ((((k - p).toNat : Nat) : Int) + p) := congrArg two e
  rw [e2, two_add, two_nat]
theorem V_at {x : Float_} {p : Int} (h : p ≤ Format.extended.k x) : Ew.Unit.V x = ((sm x.sign (x.frac * 2 ^ (Format.extended.k x - p).toNat) : Int) : Rat) * two p := by
  rw [V_eq, two_shift h, sm_mul, Rat.intCast_mul, Rat.mul_assoc]
  rfl
theorem V_sum {a b : Float_} {p : Int} (ha : p ≤ Format.extended.k a) (hb : p ≤ Format.extended.k b) : Ew.Unit.V a + Ew.Unit.V b = ((sm a.sign (a.frac * 2 ^ (Format.extended.k a - p).toNat) + sm b.sign (b.frac * 2 ^ (Format.extended.k b - p).toNat) : Int) : Rat) * two p := by
  rw [V_at ha, V_at hb, Rat.intCast_add, Rat.add_mul]
theorem V_mul (a b : Float_) : Ew.Unit.V a * Ew.Unit.V b = ((sm (a.sign != b.sign) (a.frac * b.frac) : Int) : Rat) * two (Format.extended.k a + Format.extended.k b) := by
  rw [V_eq, V_eq, two_add]
  have e : sm (a.sign != b.sign) (a.frac * b.frac) = sm a.sign a.frac * sm b.sign b.frac := by
    unfold sm
    cases a.sign <;> cases b.sign <;> simp [Int.neg_mul, Int.mul_neg]
  rw [e, Rat.intCast_mul]
  grind
theorem two_ne (k : Int) : two k ≠ 0 := fun h => by have := two_pos k; rw [h] at this; exact absurd this (by decide)
theorem two_inv (k : Int) : two k * two (-k) = 1 := by
  rw [← two_add]
  have : k + -k = 0 := by omega
  rw [this, two_zero]
theorem is2_of {v : Rat} {n : Int} {B : Nat} {k : Int} (hB : 0 < B) (h : v * ((B : Nat) : Rat) = (n : Rat) * two k) : Is2 ⟨v.num.natAbs, v.den, false⟩ n.natAbs B k := by
  refine ⟨rfl, Nat.pos_of_ne_zero v.den_nz, hB, ?_⟩
  have hv : mkRat v.num v.den = v := Rat.mkRat_self v
  have h2 : mkRat (v.num * (B : Int)) v.den = mkRat (n * ((2 ^ k.toNat : Nat) : Int)) (2 ^ (-k).toNat) := by
    have e1 : mkRat (v.num * (B : Int)) v.den = v * ((B : Nat) : Rat) := by
      have hi : ∀ z : Int, (z : Rat) = mkRat z 1 := fun z => by rw [Rat.mkRat_eq_div]; simp; grind
      have : ((B : Nat) : Rat) = mkRat (B : Int) 1 := hi (B : Int)
      rw [this]
      conv => rhs; rw [← hv]
      rw [Rat.mkRat_mul_mkRat]; simp
    rw [e1, h, two_mk]
    have : (n : Rat) = mkRat n 1 := by rw [Rat.mkRat_eq_div]; simp; grind
    rw [this, Rat.mkRat_mul_mkRat]; simp
  have h3 := (Rat.mkRat_eq_iff v.den_nz (by have := p2pos (-k).toNat; omega)).mp h2
  have e := congrArg Int.natAbs h3
  simp only [Int.natAbs_mul, Int.natAbs_natCast] at e
  calc v.num.natAbs * 2 ^ (-k).toNat * B = v.num.natAbs * B * 2 ^ (-k).toNat := by simp only [Nat.mul_assoc, Nat.mul_comm, Nat.mul_left_comm]
    _ = n.natAbs * 2 ^ k.toNat * v.den := e
theorem V_div (a b : Float_) (hb : 0 < b.frac) : Ew.Unit.V a / Ew.Unit.V b * ((b.frac : Nat) : Rat) = ((sm (a.sign != b.sign) a.frac : Int) : Rat) * two (Format.extended.k a - Format.extended.k b) := by
  have hne : Ew.Unit.V b ≠ 0 := fun q => by
    have := sm_zero.mp ((rat_zero (V_eq b)).mp q)
    omega
  have e1 : ((b.frac : Nat) : Rat) = Ew.Unit.V b * ((sm b.sign 1 : Int) : Rat) * two (-Format.extended.k b) := by
    rw [V_eq]
    have h1 : ((b.frac : Nat) : Rat) = ((sm b.sign b.frac : Int) : Rat) * ((sm b.sign 1 : Int) : Rat) := by
      rw [← Rat.intCast_mul]
      have : sm b.sign b.frac * sm b.sign 1 = (b.frac : Int) := by unfold sm; cases b.sign <;> simp
      rw [this]; rfl
    have h2 := two_inv (Format.extended.k b)
    rw [h1]
    generalize ((sm b.sign b.frac : Int) : Rat) = x
    generalize ((sm b.sign 1 : Int) : Rat) = y
    generalize two (Format.extended.k b) = t at *
    generalize two (-Format.extended.k b) = t' at *
    grind
  have e2 : Ew.Unit.V a / Ew.Unit.V b * ((b.frac : Nat) : Rat) = Ew.Unit.V a * ((sm b.sign 1 : Int) : Rat) * two (-Format.extended.k b) := by
    rw [e1, Rat.mul_assoc (Ew.Unit.V b), ← Rat.mul_assoc, Rat.div_mul_cancel hne, Rat.mul_assoc]
  rw [e2, V_eq]
  have e3 : Format.extended.k a - Format.extended.k b = Format.extended.k a + -Format.extended.k b := by omega
  rw [e3, two_add]
  have e4 : sm (a.sign != b.sign) a.frac = sm a.sign a.frac * sm b.sign 1 := by
    unfold sm
    cases a.sign <;> cases b.sign <;> simp
  rw [e4, Rat.intCast_mul]
  grind
/-! ### far scales -/
theorem rnd_over {f : Format} {q : Nat} {r : Rounding} {s : Bool} {m : Nat} {k : Int} (h : f.emax < (m.log2 : Int) + k) : rnd f q r s m k = over f q r s := by
  unfold rnd
  have : (m.log2 : Int) + k ≤ topR q r s m k := by unfold topR; split <;> omega
  rw [if_pos (by omega)]
def tiny (f : Format) (q : Nat) (r : Rounding) (s : Bool) : Told := (f.make s (if up r s 0 1 2 = true then 1 else 0) (f.emin - (q : Int) + 1), UNDER + INEXACT + (if up r s 0 1 2 = true then UP else 0))
theorem rnd_tiny {f : Format} {q : Nat} {r : Rounding} {s : Bool} {m : Nat} {k : Int} (hm : 0 < m) (h : (m.log2 : Int) + k + 3 < f.emin - (q : Int)) : rnd f q r s m k = tiny f q r s := by
  have he := emin_le f
  have t1 : topR q r s m k ≤ (m.log2 : Int) + k + 1 := by unfold topR; split <;> omega
  unfold rnd
  rw [if_neg (by omega), if_pos (by omega)]
  unfold MX.under tiny
  generalize hj : f.emin - (q : Int) + 1 = j
  obtain ⟨n, hn⟩ : ∃ n : Nat, (j - k).toNat = n + 1 := ⟨(j - k).toNat - 1, by omega⟩
  have hlt : m < 2 ^ n := Nat.lt_of_lt_of_le (log2_spec hm).2 (Nat.pow_le_pow_right (by decide) (by omega))
  have hlt2 : m < 2 ^ (n + 1) := by rw [Nat.pow_succ]; omega
  have c : ¬ j ≤ k := by omega
  have hfl : fl m k j = 0 := by unfold fl; rw [if_neg c, hn, Nat.div_eq_of_lt hlt2]
  have hex : ex m k j = false := by
    unfold ex
    rw [hn, Nat.mod_eq_of_lt hlt2]
    simp [c]; omega
  have hrm : rm r s m k j = if up r s 0 1 2 = true then 1 else 0 := by
    unfold rm
    rw [if_neg c, hn, Nat.div_eq_of_lt hlt2, Nat.mod_eq_of_lt hlt2, Nat.zero_add]
    have e : n + 1 - 1 = n := by omega
    rw [e]
    have hu : up r s 0 m (2 ^ n) = up r s 0 1 2 := by
      unfold up
      cases r
      · have h1 : decide (2 ^ n < m) = false := by simp; omega
        have h2 : (m == 2 ^ n) = false := by simp; omega
        rw [h1, h2]; rfl
      · rfl
      · rfl
      · rfl
    rw [hu]
    by_cases q : up r s 0 1 2 = true
    · rw [if_pos ⟨hm, q⟩, if_pos q]
    · rw [if_neg (fun z => q z.2), if_neg q]
  rw [hfl, hex, hrm]
  by_cases q : up r s 0 1 2 = true
  · simp [q]
  · simp [q]
end MX

set_option Elab.async false
set_option linter.all false
set_option maxRecDepth 100000
namespace UX
open PySem PySem.Spec PyProof.Rows L2 DD MX
open Ew (Float_ Format Rounding)
/-! ### two: sums, products, quotients, scales -/
def rawT (q : Nat) (r : Rounding) (e : Ew.Unit.Exact) : D := tld .extended (Ew.Unit.told q r 0 e)
def C_added_infinite : DCt := fun ds P => ∃ (q : Nat) (r : Rounding) (a b : Float_), ds = [numD a, numD b] ∧ (kd a = .infinite ∨ kd b = .infinite) ∧ P (rawT q r (Ew.Unit.addE r a b))
def C_signed_size : DCt := fun ds P => ∃ (x : Float_) (p : Int), ds = [numD x, .int p] ∧ OkE x ∧ p ≤ Format.extended.k x ∧ -(2 ^ 16) ≤ p ∧ P (.int (sm x.sign (x.frac * 2 ^ (Format.extended.k x - p).toNat)))
def C_sign_of_zero_sum : DCt := fun ds P => ∃ (a b : Float_) (r : Rounding), ds = [numD a, numD b, .int (rn r)] ∧ P (.int (sg (if a.sign = b.sign then a.sign else decide (r = .down))))
def C_added : DCt := fun ds P => ∃ (q : Nat) (r : Rounding) (a b : Float_), ds = [numD a, numD b, .int q, .int (rn r)] ∧ OkE a ∧ OkE b ∧ (kd a).none_ = false ∧ (kd b).none_ = false ∧ 1 ≤ q ∧ q ≤ 64 ∧ P (rawT q r (Ew.Unit.addE r a b))
def C_subtracted : DCt := fun ds P => ∃ (q : Nat) (r : Rounding) (a b : Float_), ds = [numD a, numD b, .int q, .int (rn r)] ∧ OkE a ∧ OkE b ∧ (kd a).none_ = false ∧ (kd b).none_ = false ∧ 1 ≤ q ∧ q ≤ 64 ∧ P (rawT q r (Ew.Unit.addE r a (Ew.Unit.flip b)))
def C_multiplied : DCt := fun ds P => ∃ (q : Nat) (r : Rounding) (a b : Float_), ds = [numD a, numD b, .int q, .int (rn r)] ∧ OkE a ∧ OkE b ∧ (kd a).none_ = false ∧ (kd b).none_ = false ∧ 1 ≤ q ∧ q ≤ 64 ∧ P (rawT q r (Ew.Unit.mulE a b))
def C_divided : DCt := fun ds P => ∃ (q : Nat) (r : Rounding) (a b : Float_), ds = [numD a, numD b, .int q, .int (rn r)] ∧ OkE a ∧ OkE b ∧ (kd a).none_ = false ∧ (kd b).none_ = false ∧ 1 ≤ q ∧ q ≤ 64 ∧ P (rawT q r (Ew.Unit.divE a b))
@[reducible] def T_added_infinite : DS := (dSeq (dIfS (dAnd (dTest (dOp oEq (dFld (dVar 0) "Number" "kind") (dFld (dVar 1) "Number" "kind"))) (dTest (dOp oNe (dFld (dVar 0) "Number" "sign") (dFld (dVar 1) "Number" "sign")))) (dRet (dLst (dCons (dC (.int 1208921207928610747318272)) (dCons (dC (.int 1)) dNil)))) dNext)
  (dRet (dLst (dCons (dIf (dTest (dOp oEq (dFld (dVar 0) "Number" "kind") (dC (.str "infinite")))) (dFld (dVar 0) "Number" "bits") (dFld (dVar 1) "Number" "bits")) (dCons (dC (.int 0)) dNil)))))
@[reducible] def T_signed_size : DS := (dSeq (dSet 2 (dOp oShl (dFld (dVar 0) "Number" "significand") (dOp oSub (dFld (dVar 0) "Number" "power") (dVar 1))))
  (dRet (dIf (dTruth (dFld (dVar 0) "Number" "sign")) (dNeg (dVar 2)) (dVar 2))))
@[reducible] def T_sign_of_zero_sum : DS := (dSeq (dIfS (dTest (dOp oEq (dFld (dVar 0) "Number" "sign") (dFld (dVar 1) "Number" "sign"))) (dRet (dFld (dVar 0) "Number" "sign")) dNext)
  (dRet (dIf (dTest (dOp oEq (dVar 2) (dC (.int 1)))) (dC (.int 1)) (dC (.int 0)))))
@[reducible] def T_added : DS := (dSeq (dIfS (dTest (dOp (oIn false) (dC (.str "infinite")) (dTup (dCons (dFld (dVar 0) "Number" "kind") (dCons (dFld (dVar 1) "Number" "kind") dNil))))) (dRet (dCall (fun ds P => ds.length = 2 ∧ C_added_infinite ds P) (dCons (dVar 0) (dCons (dVar 1) dNil)))) dNext)
  (dSeq (dSet 4 (dCall cMin (dCons (dFld (dVar 0) "Number" "power") (dCons (dFld (dVar 1) "Number" "power") dNil))))
  (dSeq (dSet 5 (dOp oAdd (dCall (fun ds P => ds.length = 2 ∧ C_signed_size ds P) (dCons (dVar 0) (dCons (dVar 4) dNil))) (dCall (fun ds P => ds.length = 2 ∧ C_signed_size ds P) (dCons (dVar 1) (dCons (dVar 4) dNil)))))
  (dSeq (dIfS (dTest (dOp oEq (dVar 5) (dC (.int 0)))) (dRet (dLst (dCons (dCall (fun ds P => ds.length = 1 ∧ C_zero_bits ds P) (dCons (dCall (fun ds P => ds.length = 3 ∧ C_sign_of_zero_sum ds P) (dCons (dVar 0) (dCons (dVar 1) (dCons (dVar 3) dNil)))) dNil)) (dCons (dC (.int 0)) dNil)))) dNext)
  (dSeq (dSet 6 (dIf (dTest (dOp oLt (dVar 5) (dC (.int 0)))) (dC (.int 1)) (dC (.int 0))))
  (dRet (dCall (fun ds P => ds.length = 5 ∧ C_rounded ds P) (dCons (dVar 6) (dCons (dCall cAbs (dCons (dVar 5) dNil)) (dCons (dVar 4) (dCons (dVar 2) (dCons (dVar 3) dNil))))))))))))
@[reducible] def T_subtracted : DS := (dRet (dCall (fun ds P => ds.length = 4 ∧ C_added ds P) (dCons (dVar 0) (dCons (dCall (fun ds P => ds.length = 1 ∧ ds.all flatD = true ∧ C_Number_init ds fun gs => P (.obj "Number" gs)) (dCons (dCall (fun ds P => ds.length = 1 ∧ C_turned ds P) (dCons (dFld (dVar 1) "Number" "bits") dNil)) dNil)) (dCons (dVar 2) (dCons (dVar 3) dNil))))))
@[reducible] def T_multiplied : DS := (dSeq (dSet 4 (dTup (dCons (dFld (dVar 0) "Number" "kind") (dCons (dFld (dVar 1) "Number" "kind") dNil))))
  (dSeq (dSet 5 (dOp oXorB (dFld (dVar 0) "Number" "sign") (dFld (dVar 1) "Number" "sign")))
  (dSeq (dIfS (dAnd (dTest (dOp (oIn false) (dC (.str "infinite")) (dVar 4))) (dTest (dOp (oIn false) (dC (.str "zero")) (dVar 4)))) (dRet (dLst (dCons (dC (.int 1208921207928610747318272)) (dCons (dC (.int 1)) dNil)))) dNext)
  (dSeq (dIfS (dTest (dOp (oIn false) (dC (.str "infinite")) (dVar 4))) (dRet (dLst (dCons (dCall (fun ds P => ds.length = 1 ∧ C_infinite_bits ds P) (dCons (dVar 5) dNil)) (dCons (dC (.int 0)) dNil)))) dNext)
  (dSeq (dIfS (dTest (dOp (oIn false) (dC (.str "zero")) (dVar 4))) (dRet (dLst (dCons (dCall (fun ds P => ds.length = 1 ∧ C_zero_bits ds P) (dCons (dVar 5) dNil)) (dCons (dC (.int 0)) dNil)))) dNext)
  (dRet (dCall (fun ds P => ds.length = 5 ∧ C_rounded ds P) (dCons (dVar 5) (dCons (dOp oMul (dFld (dVar 0) "Number" "significand") (dFld (dVar 1) "Number" "significand")) (dCons (dOp oAdd (dFld (dVar 0) "Number" "power") (dFld (dVar 1) "Number" "power")) (dCons (dVar 2) (dCons (dVar 3) dNil))))))))))))
@[reducible] def T_divided : DS := (dSeq (dSet 4 (dOp oXorB (dFld (dVar 0) "Number" "sign") (dFld (dVar 1) "Number" "sign")))
  (dSeq (dIfS (dAnd (dTest (dOp oEq (dFld (dVar 0) "Number" "kind") (dFld (dVar 1) "Number" "kind"))) (dTest (dOp (oIn false) (dFld (dVar 0) "Number" "kind") (dTup (dCons (dC (.str "zero")) (dCons (dC (.str "infinite")) dNil)))))) (dRet (dLst (dCons (dC (.int 1208921207928610747318272)) (dCons (dC (.int 1)) dNil)))) dNext)
  (dSeq (dIfS (dTest (dOp oEq (dFld (dVar 0) "Number" "kind") (dC (.str "infinite")))) (dRet (dLst (dCons (dCall (fun ds P => ds.length = 1 ∧ C_infinite_bits ds P) (dCons (dVar 4) dNil)) (dCons (dC (.int 0)) dNil)))) dNext)
  (dSeq (dIfS (dTest (dOp oEq (dFld (dVar 1) "Number" "kind") (dC (.str "zero")))) (dRet (dLst (dCons (dCall (fun ds P => ds.length = 1 ∧ C_infinite_bits ds P) (dCons (dVar 4) dNil)) (dCons (dC (.int 4)) dNil)))) dNext)
  (dSeq (dIfS (dOr (dTest (dOp oEq (dFld (dVar 0) "Number" "kind") (dC (.str "zero")))) (dTest (dOp oEq (dFld (dVar 1) "Number" "kind") (dC (.str "infinite"))))) (dRet (dLst (dCons (dCall (fun ds P => ds.length = 1 ∧ C_zero_bits ds P) (dCons (dVar 4) dNil)) (dCons (dC (.int 0)) dNil)))) dNext)
  (dSeq (dSet 5 (dOp oShl (dFld (dVar 0) "Number" "significand") (dC (.int 136))))
  (dSeq (dSet 6 (dCall (fun ds P => ds.length = 2 ∧ C_with_rest_marked ds P) (dCons (dOp oDiv (dVar 5) (dFld (dVar 1) "Number" "significand")) (dCons (dOp oMod (dVar 5) (dFld (dVar 1) "Number" "significand")) dNil))))
  (dRet (dCall (fun ds P => ds.length = 5 ∧ C_rounded ds P) (dCons (dVar 4) (dCons (dVar 6) (dCons (dOp oSub (dOp oSub (dOp oSub (dFld (dVar 0) "Number" "power") (dC (.int 136))) (dFld (dVar 1) "Number" "power")) (dC (.int 1))) (dCons (dVar 2) (dCons (dVar 3) dNil))))))))))))))
theorem z0 (x : Float_) : (Ew.Unit.isZero x = true) ↔ kd x = .zero := by show ((kd x == .zero) = true) ↔ _; simp
theorem i0 (x : Float_) : (Ew.Unit.isInf x = true) ↔ kd x = .infinite := by show ((kd x == .infinite) = true) ↔ _; simp
theorem kstr (k l : Ew.Kind) : (kindStr k = kindStr l) ↔ k = l := by cases k <;> cases l <;> decide
theorem ks_inf (k : Ew.Kind) : (kindStr k = "infinite") ↔ k = .infinite := kstr k .infinite
theorem ks_zero (k : Ew.Kind) : (kindStr k = "zero") ↔ k = .zero := kstr k .zero
theorem sg_inj (s t : Bool) : (sg s = sg t) ↔ s = t := by cases s <;> cases t <;> decide
theorem kq_inf (k : Ew.Kind) : eqD (.str (kindStr k)) (.str "infinite") = (k == .infinite) := by cases k <;> decide
theorem kq_zero (k : Ew.Kind) : eqD (.str (kindStr k)) (.str "zero") = (k == .zero) := by cases k <;> decide
theorem in2_inf (a b : Ew.Kind) : (inD (.str "infinite") [.str (kindStr a), .str (kindStr b)] = true) ↔ (a = .infinite ∨ b = .infinite) := by
  unfold inD
  simp only [List.any_cons, List.any_nil, kq_inf]
  simp
theorem in2_zero (a b : Ew.Kind) : (inD (.str "zero") [.str (kindStr a), .str (kindStr b)] = true) ↔ (a = .zero ∨ b = .zero) := by
  unfold inD
  simp only [List.any_cons, List.any_nil, kq_zero]
  simp
theorem in_zi (k : Ew.Kind) : (inD (.str (kindStr k)) [.str "zero", .str "infinite"] = true) ↔ (k = .zero ∨ k = .infinite) := by cases k <;> decide
theorem inv_raw (q : Nat) (r : Rounding) : rawT q r .invalid = D.lst [D.int 1208921207928610747318272, D.int 1] := inv_tld
theorem val_raw (q : Nat) (r : Rounding) (v : Rat) (z : Bool) : rawT q r (.value v z) = tld .extended (Format.extended.ofRat q r z v) := by
  show tld .extended ((Format.extended.ofRat q r z v).1, 0 + (Format.extended.ofRat q r z v).2) = _
  rw [Nat.zero_add]
theorem rd_added_infinite : Rd T_added_infinite 2 0 C_added_infinite := by
  intro ds Pp hl h
  obtain ⟨q, r, a, b, rfl, hi, hP⟩ := h
  unfold Ew.Unit.addE at hP
  simp only [i0] at hP
  simp only [kstr, ks_inf, Bool.not_eq_true', decide_eq_false_iff_not, sg_inj, dSeq, dSet, dRet, dIfS, dNext, dOp, dVar, dC, dCall, dCons, dNil, dTest, dTruth, dTru, dAnd, dOr, dNot, dNotV, dAndV, dOrV, dIf, dNeg, dLst, dTup, dFld, dBitLen, dSl, dNoPart, dPart, oI0, oI, oEq, oNe, oIsN, oIx, oIn, oAdd, oSub, oMul, oDiv, oMod, oShl, oShr, oAndB, oOrB, oXorB, oPow, oLt, oLe, oGt, oGe, cAbs, cMin, cMax, List.map_cons, List.map_nil, List.cons_append, List.nil_append, List.length_cons, List.length_nil, Nat.zero_add, Nat.reduceAdd, Nat.reduceSub, List.replicate_zero, List.replicate_succ, List.getElem?_cons_zero, List.getElem?_cons_succ, List.set_cons_zero, List.set_cons_succ, List.append_nil, fmD, numD, nk1, nk2, nk3, nk4, nk5, lk1, lk2, lk3, lk4, lk5, lk6, true_and, and_true, Nat.reduceLeDiff, decide_eq_true_eq]
  by_cases ca : kd a = .infinite
  · rw [if_pos ca] at hP
    by_cases cb : kd b = .infinite
    · rw [if_pos (by rw [ca, cb])]
      by_cases cs : a.sign = b.sign
      · rw [if_neg (fun z => z.2 cs)] at hP
        rw [if_neg (fun z => z cs), if_pos ca]; exact hP
      · rw [if_pos ⟨cb, cs⟩, inv_raw] at hP
        rw [if_pos cs]; exact hP
    · rw [if_neg (fun z => cb z.1)] at hP
      rw [if_neg (by rw [ca]; exact fun z => cb z.symm), if_neg (by decide), if_pos ca]; exact hP
  · rw [if_neg ca] at hP
    have cb := hi.resolve_left ca
    rw [if_pos cb] at hP
    rw [if_neg (by rw [cb]; exact ca), if_neg (by decide), if_neg ca]; exact hP
theorem rd_signed_size : Rd T_signed_size 2 1 C_signed_size := by
  intro ds Pp hl h
  obtain ⟨x, p, rfl, hx, hp, hp2, hP⟩ := h
  have hk := k_bnd hx
  have hfl := k_hi hx
  simp only [dSeq, dSet, dRet, dIfS, dNext, dOp, dVar, dC, dCall, dCons, dNil, dTest, dTruth, dTru, dAnd, dOr, dNot, dNotV, dAndV, dOrV, dIf, dNeg, dLst, dTup, dFld, dBitLen, dSl, dNoPart, dPart, oI0, oI, oEq, oNe, oIsN, oIx, oIn, oAdd, oSub, oMul, oDiv, oMod, oShl, oShr, oAndB, oOrB, oXorB, oPow, oLt, oLe, oGt, oGe, cAbs, cMin, cMax, List.map_cons, List.map_nil, List.cons_append, List.nil_append, List.length_cons, List.length_nil, Nat.zero_add, Nat.reduceAdd, Nat.reduceSub, List.replicate_zero, List.replicate_succ, List.getElem?_cons_zero, List.getElem?_cons_succ, List.set_cons_zero, List.set_cons_succ, List.append_nil, fmD, numD, nk1, nk2, nk3, nk4, nk5, lk1, lk2, lk3, lk4, lk5, lk6, true_and, and_true, Nat.reduceLeDiff, decide_eq_true_eq]
  refine ⟨shl_ok (by omega) (by omega) (by omega), ?_⟩
  have e : (x.frac : Int) * 2 ^ (Format.extended.k x - p).toNat = ((x.frac * 2 ^ (Format.extended.k x - p).toNat : Nat) : Int) := by rw [ipow]; norm_cast
  rw [e]
  unfold sm at hP
  cases hs : x.sign
  · rw [hs] at hP
    simp only [Bool.false_eq_true, if_false] at hP
    rw [if_neg (by decide)]; exact hP
  · rw [hs] at hP
    simp only [if_true] at hP
    rw [if_pos (by decide)]; exact hP
theorem rd_sign_of_zero_sum : Rd T_sign_of_zero_sum 3 0 C_sign_of_zero_sum := by
  intro ds Pp hl h
  obtain ⟨a, b, r, rfl, hP⟩ := h
  simp only [sg_inj, dSeq, dSet, dRet, dIfS, dNext, dOp, dVar, dC, dCall, dCons, dNil, dTest, dTruth, dTru, dAnd, dOr, dNot, dNotV, dAndV, dOrV, dIf, dNeg, dLst, dTup, dFld, dBitLen, dSl, dNoPart, dPart, oI0, oI, oEq, oNe, oIsN, oIx, oIn, oAdd, oSub, oMul, oDiv, oMod, oShl, oShr, oAndB, oOrB, oXorB, oPow, oLt, oLe, oGt, oGe, cAbs, cMin, cMax, List.map_cons, List.map_nil, List.cons_append, List.nil_append, List.length_cons, List.length_nil, Nat.zero_add, Nat.reduceAdd, Nat.reduceSub, List.replicate_zero, List.replicate_succ, List.getElem?_cons_zero, List.getElem?_cons_succ, List.set_cons_zero, List.set_cons_succ, List.append_nil, fmD, numD, nk1, nk2, nk3, nk4, nk5, lk1, lk2, lk3, lk4, lk5, lk6, true_and, and_true, Nat.reduceLeDiff, decide_eq_true_eq]
  by_cases c : a.sign = b.sign
  · rw [if_pos c] at hP ⊢; exact hP
  · rw [if_neg c] at hP ⊢
    cases r <;> exact hP
theorem zero_kd {x : Float_} (h : isFin x) (hz : x.frac = 0) : kd x = .zero := by
  have e0 : x.exp = 0 := by
    by_cases c : x.exp = 0
    · exact c
    · have := h.2.1 c; omega
  rw [kd_eq, if_pos e0, hz]; rfl
theorem rd_added : Rd T_added 4 3 C_added := by
  intro ds Pp hl h
  obtain ⟨q, r, a, b, rfl, ha, hb, na, nb, h1, h2, hP⟩ := h
  have ka := k_bnd ha
  have kb := k_bnd hb
  simp only [C_added_infinite, C_signed_size, C_zero_bits, C_sign_of_zero_sum, C_rounded, Bool.false_eq_true, if_false, in2_inf, dSeq, dSet, dRet, dIfS, dNext, dOp, dVar, dC, dCall, dCons, dNil, dTest, dTruth, dTru, dAnd, dOr, dNot, dNotV, dAndV, dOrV, dIf, dNeg, dLst, dTup, dFld, dBitLen, dSl, dNoPart, dPart, oI0, oI, oEq, oNe, oIsN, oIx, oIn, oAdd, oSub, oMul, oDiv, oMod, oShl, oShr, oAndB, oOrB, oXorB, oPow, oLt, oLe, oGt, oGe, cAbs, cMin, cMax, List.map_cons, List.map_nil, List.cons_append, List.nil_append, List.length_cons, List.length_nil, Nat.zero_add, Nat.reduceAdd, Nat.reduceSub, List.replicate_zero, List.replicate_succ, List.getElem?_cons_zero, List.getElem?_cons_succ, List.set_cons_zero, List.set_cons_succ, List.append_nil, fmD, numD, nk1, nk2, nk3, nk4, nk5, lk1, lk2, lk3, lk4, lk5, lk6, true_and, and_true, Nat.reduceLeDiff, decide_eq_true_eq]
  refine ⟨rfl, rfl, ?_⟩
  by_cases ci : kd a = .infinite ∨ kd b = .infinite
  · rw [if_pos ci]
    exact ⟨q, r, a, b, rfl, ci, hP⟩
  · rw [if_neg ci]
    have fa := fin_of ha ((fin_or na).resolve_left (fun z => ci (.inl z)))
    have fb := fin_of hb ((fin_or nb).resolve_left (fun z => ci (.inr z)))
    have hmin : (if Format.extended.k b < Format.extended.k a then Format.extended.k b else Format.extended.k a) = min (Format.extended.k a) (Format.extended.k b) := by omega
    rw [hmin]
    generalize hp : min (Format.extended.k a) (Format.extended.k b) = p
    have pa : p ≤ Format.extended.k a := by omega
    have pb : p ≤ Format.extended.k b := by omega
    refine ⟨a, p, rfl, ha, pa, by omega, b, p, rfl, hb, pb, by omega, ?_⟩
    unfold Ew.Unit.addE at hP
    simp only [i0] at hP
    rw [if_neg (fun z => ci (.inl z)), if_neg (fun z => ci (.inr z)), val_raw] at hP
    have hv := V_sum pa pb
    obtain ⟨W, hW⟩ : ∃ W : Nat, W = 40000 := ⟨_, rfl⟩
    have la : a.frac * 2 ^ (Format.extended.k a - p).toNat < 2 ^ W := by
      have h3 : a.frac * 2 ^ (Format.extended.k a - p).toNat < 2 ^ 64 * 2 ^ (Format.extended.k a - p).toNat := Nat.mul_lt_mul_of_pos_right fa.2.2 (p2pos _)
      rw [← Nat.pow_add] at h3
      exact Nat.lt_of_lt_of_le h3 (Nat.pow_le_pow_right (by decide) (by omega))
    have lb : b.frac * 2 ^ (Format.extended.k b - p).toNat < 2 ^ W := by
      have h3 : b.frac * 2 ^ (Format.extended.k b - p).toNat < 2 ^ 64 * 2 ^ (Format.extended.k b - p).toNat := Nat.mul_lt_mul_of_pos_right fb.2.2 (p2pos _)
      rw [← Nat.pow_add] at h3
      exact Nat.lt_of_lt_of_le h3 (Nat.pow_le_pow_right (by decide) (by omega))
    have za : a.frac * 2 ^ (Format.extended.k a - p).toNat = 0 → a.frac = 0 := fun z => by
      rcases Nat.mul_eq_zero.mp z with z | z
      · exact z
      · have := p2pos (Format.extended.k a - p).toNat; omega
    have zb : b.frac * 2 ^ (Format.extended.k b - p).toNat = 0 → b.frac = 0 := fun z => by
      rcases Nat.mul_eq_zero.mp z with z | z
      · exact z
      · have := p2pos (Format.extended.k b - p).toNat; omega
    have habs : (sm a.sign (a.frac * 2 ^ (Format.extended.k a - p).toNat) + sm b.sign (b.frac * 2 ^ (Format.extended.k b - p).toNat)).natAbs ≤ a.frac * 2 ^ (Format.extended.k a - p).toNat + b.frac * 2 ^ (Format.extended.k b - p).toNat := by
      unfold sm
      cases a.sign <;> cases b.sign <;> simp only [Bool.false_eq_true, if_false, if_true] <;> omega
    have hzero : sm a.sign (a.frac * 2 ^ (Format.extended.k a - p).toNat) + sm b.sign (b.frac * 2 ^ (Format.extended.k b - p).toNat) = 0 → a.sign = b.sign → kd a = .zero ∧ kd b = .zero := by
      intro h3 h4
      have h5 : a.frac * 2 ^ (Format.extended.k a - p).toNat = 0 ∧ b.frac * 2 ^ (Format.extended.k b - p).toNat = 0 := by
        revert h3
        unfold sm
        rw [h4]
        cases b.sign <;> simp only [Bool.false_eq_true, if_false, if_true] <;> omega
      exact ⟨zero_kd fa (za h5.1), zero_kd fb (zb h5.2)⟩
    generalize sm a.sign (a.frac * 2 ^ (Format.extended.k a - p).toNat) + sm b.sign (b.frac * 2 ^ (Format.extended.k b - p).toNat) = Z at hv habs hzero ⊢
    by_cases cz : Z = 0
    · rw [if_pos cz]
      have hv0 : Ew.Unit.V a + Ew.Unit.V b = 0 := (rat_zero hv).mpr cz
      rw [hv0, ofRat_zero] at hP
      refine ⟨a, b, r, rfl, _, rfl, ?_⟩
      have ez : Ew.Unit.zeroOf r a b = if a.sign = b.sign then a.sign else decide (r = .down) := by
        unfold Ew.Unit.zeroOf
        simp only [z0]
        by_cases cs : a.sign = b.sign
        · have := hzero cz cs
          rw [if_pos ⟨this.1, this.2, cs⟩, if_pos cs]
        · rw [if_neg (fun z => cs z.2.2), if_neg cs]
      rw [ez] at hP
      exact hP
    · rw [if_neg cz]
      have hZ : Z = sm (decide (Z < 0)) Z.natAbs := by
        unfold sm
        by_cases c : Z < 0
        · simp only [c, decide_true, if_true]; omega
        · simp only [c, decide_false, Bool.false_eq_true, if_false]; omega
      have hv2 : Ew.Unit.V a + Ew.Unit.V b = ((sm (decide (Z < 0)) Z.natAbs : Int) : Rat) * Ew.two p := by rw [← hZ]; exact hv
      rw [ofRat_eq .extended q r _ hv2 (by omega)] at hP
      have hlog : Z.natAbs.log2 ≤ W + 1 := log2_lt' (Nat.lt_of_le_of_lt habs (by rw [Nat.pow_succ 2 W]; omega))
      by_cases c : Z < 0
      · rw [if_pos c, if_pos c]
        simp only [c, decide_true] at hP
        refine ⟨true, Z.natAbs, p, q, r, ?_, by omega, by omega, by omega, by omega, h1, h2, hP⟩
        have : ((Z.natAbs : Nat) : Int) = -Z := by omega
        rw [this]; rfl
      · rw [if_neg c, if_neg c]
        simp only [c, decide_false] at hP
        refine ⟨false, Z.natAbs, p, q, r, ?_, by omega, by omega, by omega, by omega, h1, h2, hP⟩
        have : ((Z.natAbs : Nat) : Int) = Z := by omega
        rw [this]; rfl
end UX

set_option Elab.async false
set_option linter.all false
set_option maxRecDepth 100000
namespace UX
open PySem PySem.Spec PyProof.Rows L2 DD MX
open Ew (Float_ Format Rounding)
def C_scaled_without_end : DCt := fun ds P => ∃ (r : Rounding) (a b : Float_), ds = [numD a, numD b] ∧ OkE a ∧ kd b = .infinite ∧ P (rawT 64 r (Ew.Unit.scaleE a b))
def C_places_to_scale : DCt := fun ds P => ∃ b : Float_, ds = [numD b] ∧ OkE b ∧ P (.int (sm b.sign (min (shf b.frac (Format.extended.k b)) 40000)))
def C_scaled : DCt := fun ds P => ∃ (r : Rounding) (a b : Float_), ds = [numD a, numD b, .int (rn r)] ∧ OkE a ∧ OkE b ∧ (kd a).none_ = false ∧ (kd b).none_ = false ∧ P (rawT 64 r (Ew.Unit.scaleE a b))
@[reducible] def T_scaled_without_end : DS := (dSeq (dSet 2 (dIf (dTruth (dFld (dVar 1) "Number" "sign")) (dC (.str "infinite")) (dC (.str "zero"))))
  (dSeq (dIfS (dTest (dOp oEq (dFld (dVar 0) "Number" "kind") (dVar 2))) (dRet (dLst (dCons (dC (.int 1208921207928610747318272)) (dCons (dC (.int 1)) dNil)))) dNext)
  (dRet (dLst (dCons (dIf (dTruth (dFld (dVar 1) "Number" "sign")) (dCall (fun ds P => ds.length = 1 ∧ C_zero_bits ds P) (dCons (dFld (dVar 0) "Number" "sign") dNil)) (dCall (fun ds P => ds.length = 1 ∧ C_infinite_bits ds P) (dCons (dFld (dVar 0) "Number" "sign") dNil))) (dCons (dC (.int 0)) dNil))))))
@[reducible] def T_places_to_scale : DS := (dSeq (dSet 1 (dCall cMin (dCons (dCall (fun ds P => ds.length = 2 ∧ C_shifted ds P) (dCons (dFld (dVar 0) "Number" "significand") (dCons (dFld (dVar 0) "Number" "power") dNil))) (dCons (dC (.int 40000)) dNil))))
  (dRet (dIf (dTruth (dFld (dVar 0) "Number" "sign")) (dNeg (dVar 1)) (dVar 1))))
@[reducible] def T_scaled : DS := (dSeq (dIfS (dTest (dOp oEq (dFld (dVar 1) "Number" "kind") (dC (.str "infinite")))) (dRet (dCall (fun ds P => ds.length = 2 ∧ C_scaled_without_end ds P) (dCons (dVar 0) (dCons (dVar 1) dNil)))) dNext)
  (dSeq (dIfS (dTest (dOp (oIn false) (dFld (dVar 0) "Number" "kind") (dTup (dCons (dC (.str "zero")) (dCons (dC (.str "infinite")) dNil))))) (dRet (dLst (dCons (dFld (dVar 0) "Number" "bits") (dCons (dC (.int 0)) dNil)))) dNext)
  (dRet (dCall (fun ds P => ds.length = 5 ∧ C_rounded ds P) (dCons (dFld (dVar 0) "Number" "sign") (dCons (dFld (dVar 0) "Number" "significand") (dCons (dOp oAdd (dFld (dVar 0) "Number" "power") (dCall (fun ds P => ds.length = 1 ∧ C_places_to_scale ds P) (dCons (dVar 1) dNil))) (dCons (dC (.int 64)) (dCons (dVar 2) dNil)))))))))
theorem flip_ok {x : Float_} (hx : OkE x) : OkE (Ew.Unit.flip x) ∧ kd (Ew.Unit.flip x) = kd x := ⟨⟨hx.exp, hx.frac⟩, rfl⟩
theorem rd_subtracted : Rd T_subtracted 4 0 C_subtracted := by
  intro ds Pp hl h
  obtain ⟨q, r, a, b, rfl, ha, hb, na, nb, h1, h2, hP⟩ := h
  have hf := flip_ok hb
  refine ⟨rfl, rfl, ?_⟩
  simp only [C_turned, C_Number_init, C_added, dSeq, dSet, dRet, dIfS, dNext, dOp, dVar, dC, dCall, dCons, dNil, dTest, dTruth, dTru, dAnd, dOr, dNot, dNotV, dAndV, dOrV, dIf, dNeg, dLst, dTup, dFld, dBitLen, dSl, dNoPart, dPart, oI0, oI, oEq, oNe, oIsN, oIx, oIn, oAdd, oSub, oMul, oDiv, oMod, oShl, oShr, oAndB, oOrB, oXorB, oPow, oLt, oLe, oGt, oGe, cAbs, cMin, cMax, List.map_cons, List.map_nil, List.cons_append, List.nil_append, List.length_cons, List.length_nil, Nat.zero_add, Nat.reduceAdd, Nat.reduceSub, List.replicate_zero, List.replicate_succ, List.getElem?_cons_zero, List.getElem?_cons_succ, List.set_cons_zero, List.set_cons_succ, List.append_nil, fmD, numD, nk1, nk2, nk3, nk4, nk5, lk1, lk2, lk3, lk4, lk5, lk6, true_and, and_true, Nat.reduceLeDiff, decide_eq_true_eq]
  exact ⟨b, rfl, hb, rfl, Ew.Unit.flip b, hf.1, rfl, q, r, a, Ew.Unit.flip b, rfl, ha, hf.1, na, by rw [hf.2]; exact nb, h1, h2, hP⟩
theorem xor_sg (s t : Bool) : Builtin.bitXor (sg s) (sg t) = sg (s != t) := by cases s <;> cases t <;> decide
theorem fin_pos {x : Float_} (hf : isFin x) (h : kd x ≠ .zero) : 0 < x.frac := by
  rcases Nat.eq_zero_or_pos x.frac with z | z
  · exact absurd (zero_kd hf z) h
  · exact z
theorem rd_multiplied : Rd T_multiplied 4 2 C_multiplied := by
  intro ds Pp hl h
  obtain ⟨q, r, a, b, rfl, ha, hb, na, nb, h1, h2, hP⟩ := h
  have ka := k_bnd ha
  have kb := k_bnd hb
  unfold Ew.Unit.mulE at hP
  simp only [i0, z0] at hP
  simp only [C_infinite_bits, C_zero_bits, C_rounded, Bool.false_eq_true, if_false, in2_inf, in2_zero, xor_sg, dSeq, dSet, dRet, dIfS, dNext, dOp, dVar, dC, dCall, dCons, dNil, dTest, dTruth, dTru, dAnd, dOr, dNot, dNotV, dAndV, dOrV, dIf, dNeg, dLst, dTup, dFld, dBitLen, dSl, dNoPart, dPart, oI0, oI, oEq, oNe, oIsN, oIx, oIn, oAdd, oSub, oMul, oDiv, oMod, oShl, oShr, oAndB, oOrB, oXorB, oPow, oLt, oLe, oGt, oGe, cAbs, cMin, cMax, List.map_cons, List.map_nil, List.cons_append, List.nil_append, List.length_cons, List.length_nil, Nat.zero_add, Nat.reduceAdd, Nat.reduceSub, List.replicate_zero, List.replicate_succ, List.getElem?_cons_zero, List.getElem?_cons_succ, List.set_cons_zero, List.set_cons_succ, List.append_nil, fmD, numD, nk1, nk2, nk3, nk4, nk5, lk1, lk2, lk3, lk4, lk5, lk6, true_and, and_true, Nat.reduceLeDiff, decide_eq_true_eq]
  refine ⟨rfl, rfl, ?_⟩
  by_cases ci : kd a = .infinite ∨ kd b = .infinite
  · rw [if_pos ci] at hP ⊢
    refine ⟨rfl, rfl, ?_⟩
    by_cases cz : kd a = .zero ∨ kd b = .zero
    · rw [if_pos cz, inv_raw] at hP
      rw [if_pos cz]; exact hP
    · rw [if_neg cz] at hP
      rw [if_neg cz]
      refine ⟨rfl, rfl, ?_⟩
      rw [if_pos ci]
      exact ⟨_, rfl, hP⟩
  · rw [if_neg ci, val_raw] at hP
    rw [if_neg ci]
    have fa := fin_of ha ((fin_or na).resolve_left (fun z => ci (.inl z)))
    have fb := fin_of hb ((fin_or nb).resolve_left (fun z => ci (.inr z)))
    refine ⟨rfl, rfl, ?_⟩
    rw [if_neg ci]
    refine ⟨rfl, rfl, ?_⟩
    have hv := V_mul a b
    by_cases cz : kd a = .zero ∨ kd b = .zero
    · rw [if_pos cz]
      have hz : a.frac * b.frac = 0 := by
        rcases cz with z | z
        · rw [kd_zero z]; simp
        · rw [kd_zero z]; simp
      have hv0 : Ew.Unit.V a * Ew.Unit.V b = 0 := (rat_zero hv).mpr (sm_zero.mpr hz)
      rw [hv0, ofRat_zero] at hP
      exact ⟨_, rfl, hP⟩
    · rw [if_neg cz]
      have pa := fin_pos fa (fun z => cz (.inl z))
      have pb := fin_pos fb (fun z => cz (.inr z))
      have pm := Nat.mul_pos pa pb
      rw [ofRat_eq .extended q r _ hv pm] at hP
      have hlt : a.frac * b.frac < 2 ^ 128 := by
        have := Nat.mul_lt_mul_of_lt_of_lt fa.2.2 fb.2.2
        rw [← Nat.pow_add] at this
        exact this
      refine ⟨mul_ok (by have := bits_le fa.2.2; omega) (by have := bits_le fb.2.2; omega), _, a.frac * b.frac, _, q, r, ?_, pm, by have := log2_lt' hlt; omega, by omega, by omega, h1, h2, hP⟩
      have : (a.frac : Int) * (b.frac : Int) = ((a.frac * b.frac : Nat) : Int) := by norm_cast
      rw [this]
theorem rd_divided : Rd T_divided 4 3 C_divided := by
  intro ds Pp hl h
  obtain ⟨q, r, a, b, rfl, ha, hb, na, nb, h1, h2, hP⟩ := h
  have ka := k_bnd ha
  have kb := k_bnd hb
  unfold Ew.Unit.divE at hP
  simp only [i0, z0] at hP
  simp only [C_infinite_bits, C_zero_bits, C_with_rest_marked, C_rounded, Bool.false_eq_true, if_false, in_zi, xor_sg, kstr, ks_inf, ks_zero, dSeq, dSet, dRet, dIfS, dNext, dOp, dVar, dC, dCall, dCons, dNil, dTest, dTruth, dTru, dAnd, dOr, dNot, dNotV, dAndV, dOrV, dIf, dNeg, dLst, dTup, dFld, dBitLen, dSl, dNoPart, dPart, oI0, oI, oEq, oNe, oIsN, oIx, oIn, oAdd, oSub, oMul, oDiv, oMod, oShl, oShr, oAndB, oOrB, oXorB, oPow, oLt, oLe, oGt, oGe, cAbs, cMin, cMax, List.map_cons, List.map_nil, List.cons_append, List.nil_append, List.length_cons, List.length_nil, Nat.zero_add, Nat.reduceAdd, Nat.reduceSub, List.replicate_zero, List.replicate_succ, List.getElem?_cons_zero, List.getElem?_cons_succ, List.set_cons_zero, List.set_cons_succ, List.append_nil, fmD, numD, nk1, nk2, nk3, nk4, nk5, lk1, lk2, lk3, lk4, lk5, lk6, true_and, and_true, Nat.reduceLeDiff, decide_eq_true_eq]
  by_cases ia : kd a = .infinite
  · rw [if_pos ia] at hP
    by_cases ib : kd b = .infinite
    · rw [if_pos ib, inv_raw] at hP
      rw [if_pos (by rw [ia, ib])]
      refine ⟨rfl, rfl, ?_⟩
      rw [if_pos (.inr ia)]; exact hP
    · rw [if_neg ib] at hP
      rw [if_neg (by rw [ia]; exact fun z => ib z.symm), if_pos ia]
      exact ⟨_, rfl, hP⟩
  · rw [if_neg ia] at hP
    by_cases ib : kd b = .infinite
    · rw [if_pos ib] at hP
      rw [if_neg (by rw [ib]; exact ia), if_neg ia, if_neg (by rw [ib]; decide)]
      by_cases za : kd a = .zero
      · rw [if_pos za]; rw [if_pos trivial]; exact ⟨_, rfl, hP⟩
      · rw [if_neg za, if_pos ib]; exact ⟨_, rfl, hP⟩
    · rw [if_neg ib] at hP
      have fa := fin_of ha ((fin_or na).resolve_left ia)
      have fb := fin_of hb ((fin_or nb).resolve_left ib)
      by_cases zb : kd b = .zero
      · rw [if_pos zb] at hP
        by_cases za : kd a = .zero
        · rw [if_pos za, inv_raw] at hP
          rw [if_pos (by rw [za, zb])]
          refine ⟨rfl, rfl, ?_⟩
          rw [if_pos (.inl za)]; exact hP
        · rw [if_neg za] at hP
          rw [if_neg (by rw [zb]; exact za), if_neg ia, if_pos zb]
          exact ⟨_, rfl, hP⟩
      · rw [if_neg zb, val_raw] at hP
        have pb := fin_pos fb zb
        have hv := V_div a b pb
        have first : ∀ Q : Prop, Q → (if kd a = kd b then flatD (D.str (kindStr (kd a))) = true ∧ ([D.str "zero", D.str "infinite"] : List D).all flatD = true ∧ (if kd a = .zero ∨ kd a = .infinite then Pp (D.lst [D.int 1208921207928610747318272, D.int 1]) else Q) else Q) := by
          intro Q hQ
          by_cases ce : kd a = kd b
          · rw [if_pos ce]
            refine ⟨rfl, rfl, ?_⟩
            rw [if_neg (by rw [ce]; exact fun z => z.elim zb ib)]; exact hQ
          · rw [if_neg ce]; exact hQ
        refine first _ ?_
        rw [if_neg ia, if_neg zb]
        have hBpos : (0 : Rat) < ((b.frac : Nat) : Rat) := Rat.natCast_pos.mpr pb
        by_cases za : kd a = .zero
        · rw [if_pos za, if_pos trivial]
          have hv0 : Ew.Unit.V a / Ew.Unit.V b = 0 := by
            have h3 := (rat_zero hv).mpr (sm_zero.mpr (kd_zero za))
            rcases Rat.mul_eq_zero.mp h3 with z | z
            · exact z
            · rw [z] at hBpos; exact absurd hBpos (by decide)
          rw [hv0, ofRat_zero] at hP
          exact ⟨_, rfl, hP⟩
        · rw [if_neg za, if_neg ib]
          have pa := fin_pos fa za
          have la := fa.2.2
          have lb := fb.2.2
          have I := is2_of pb hv
          rw [sm_abs] at I
          have hQ : 2 ^ 72 ≤ a.frac * 2 ^ 136 / b.frac := by
            rw [Nat.le_div_iff_mul_le pb]
            have h3 : 2 ^ 72 * b.frac ≤ 2 ^ 72 * 2 ^ 64 := Nat.mul_le_mul_left _ (by omega)
            rw [← Nat.pow_add] at h3
            have h4 : 1 * 2 ^ 136 ≤ a.frac * 2 ^ 136 := Nat.mul_le_mul_right _ pa
            omega
          have hQ2 : a.frac * 2 ^ 136 / b.frac < 2 ^ 200 := by
            have h3 : a.frac * 2 ^ 136 / b.frac ≤ a.frac * 2 ^ 136 := Nat.div_le_self _ _
            have h4 : a.frac * 2 ^ 136 < 2 ^ 64 * 2 ^ 136 := Nat.mul_lt_mul_of_pos_right la (p2pos _)
            rw [← Nat.pow_add] at h4
            omega
          have L := div_like I 136 pa (by omega)
          have hnz : Ew.Unit.V a / Ew.Unit.V b ≠ 0 := fun z => by
            have h3 : Ew.Unit.V a / Ew.Unit.V b * ((b.frac : Nat) : Rat) = 0 := by rw [z]; exact Rat.zero_mul _
            have := sm_zero.mp ((rat_zero hv).mp h3)
            omega
          have hsgn : decide (Ew.Unit.V a / Ew.Unit.V b < 0) = (a.sign != b.sign) := by
            have h3 := rat_neg hv
            rw [sm_neg pa] at h3
            rw [← h3]
            exact decide_eq_decide.mpr (Rat.mul_neg_iff_of_pos_right hBpos).symm
          generalize hQe : a.frac * 2 ^ 136 / b.frac = Q at *
          generalize hRe : a.frac * 2 ^ 136 % b.frac = R at *
          have hmk : 2 * Q ≤ mark Q (decide (R ≠ 0)) ∧ mark Q (decide (R ≠ 0)) ≤ 2 * Q + 1 := by unfold mark; split <;> omega
          have hml : 73 ≤ (mark Q (decide (R ≠ 0))).log2 := by
            have h3 := (log2_spec (m := mark Q (decide (R ≠ 0))) (by omega)).2
            have h4 : 2 ^ 73 ≤ mark Q (decide (R ≠ 0)) := by omega
            have := (Nat.pow_lt_pow_iff_right (a := 2) (by decide)).mp (Nat.lt_of_le_of_lt h4 h3)
            omega
          have hml2 : (mark Q (decide (R ≠ 0))).log2 ≤ 202 := log2_lt' (by omega)
          have hr : Format.extended.ofRat q r (a.sign != b.sign) (Ew.Unit.V a / Ew.Unit.V b) = rnd .extended q r (a.sign != b.sign) (mark Q (decide (R ≠ 0))) (Format.extended.k a - Format.extended.k b - 136 - 1) := by
            unfold Format.ofRat
            rw [if_neg hnz, hsgn]
            exact rounded_like .extended q r _ L (by unfold unitOf; omega)
          rw [hr] at hP
          have e1 : (a.frac : Int) * 2 ^ (136 : Int).toNat = ((a.frac * 2 ^ 136 : Nat) : Int) := by
            have : (136 : Int).toNat = 136 := rfl
            rw [this, ipow]; norm_cast
          have hfl := k_hi ha
          rw [e1]
          refine ⟨shl_ok (by decide) (by omega) (by decide), div_ok (by omega) (by have := bits_le lb; omega), by omega, Q, R, ?_, by have := log2_lt' hQ2; omega, _, _, _, q, r, rfl, by omega, by omega, by omega, by omega, h1, h2, ?_⟩
          · rw [← Int.natCast_ediv, ← Int.natCast_emod, hQe, hRe]
          · have e2 : Format.extended.k a - 136 - Format.extended.k b - 1 = Format.extended.k a - Format.extended.k b - 136 - 1 := by omega
            rw [e2]; exact hP
theorem cutOf_V (x : Float_) : Ew.Unit.cutOf (Ew.Unit.V x) = sm x.sign (shf x.frac (Format.extended.k x)) := by
  have flo : ∀ (m : Nat) (k : Int) (v : Rat), v = ((m : Int) : Rat) * Ew.two k → v.floor = ((shf m k : Nat) : Int) := by
    intro m k v hv
    have h := is_rat hv
    rw [Rat.floor_def]
    unfold shf
    have hd : (0 : Int) < (v.den : Int) := by have := v.den_pos; omega
    by_cases c : 0 ≤ k
    · rw [if_pos c]
      have e : (-k).toNat = 0 := by omega
      rw [e, Nat.pow_zero] at h
      have h2 : v.num = (m : Int) * ((2 ^ k.toNat : Nat) : Int) * (v.den : Int) := by rw [← h]; simp
      rw [h2, Int.mul_ediv_cancel _ (by omega)]
      norm_cast
    · rw [if_neg c]
      have e : k.toNat = 0 := by omega
      rw [e, Nat.pow_zero] at h
      have h2 : v.num * ((2 ^ (-k).toNat : Nat) : Int) = (m : Int) * (v.den : Int) := by rw [h]; simp
      have hp : (0 : Int) < ((2 ^ (-k).toNat : Nat) : Int) := by have := p2pos (-k).toNat; omega
      rw [Int.natCast_ediv]
      rw [← Int.mul_ediv_mul_of_pos_left v.num _ hp, h2, Int.mul_comm (v.den : Int), Int.mul_ediv_mul_of_pos_left _ _ hd]
  unfold Ew.Unit.cutOf
  have hv := V_eq x
  by_cases z : x.frac = 0
  · have h0 : Ew.Unit.V x = 0 := (rat_zero hv).mpr (sm_zero.mpr z)
    rw [h0, z]
    have e : shf 0 (Format.extended.k x) = 0 := by unfold shf; split <;> simp
    rw [e]
    cases x.sign <;> rfl
  · have hn := rat_neg hv
    rw [sm_neg (by omega)] at hn
    cases hs : x.sign
    · rw [hs] at hn hv
      have : ¬ Ew.Unit.V x < 0 := of_decide_eq_false hn
      rw [if_neg this, flo x.frac _ _ hv]; rfl
    · rw [hs] at hn hv
      have : Ew.Unit.V x < 0 := of_decide_eq_true hn
      rw [if_pos this]
      have hv2 : -Ew.Unit.V x = ((x.frac : Int) : Rat) * Ew.two (Format.extended.k x) := by
        rw [hv]
        have : sm true x.frac = -(x.frac : Int) := rfl
        rw [this, Rat.intCast_neg, Rat.neg_mul, Rat.neg_neg]
      rw [flo x.frac _ _ hv2]; rfl
theorem rd_scaled_without_end : Rd T_scaled_without_end 2 1 C_scaled_without_end := by
  intro ds Pp hl h
  obtain ⟨r, a, b, rfl, ha, hb, hP⟩ := h
  unfold Ew.Unit.scaleE at hP
  simp only [i0, z0] at hP
  rw [if_pos hb] at hP
  simp only [C_zero_bits, C_infinite_bits, kstr, ks_inf, ks_zero, dSeq, dSet, dRet, dIfS, dNext, dOp, dVar, dC, dCall, dCons, dNil, dTest, dTruth, dTru, dAnd, dOr, dNot, dNotV, dAndV, dOrV, dIf, dNeg, dLst, dTup, dFld, dBitLen, dSl, dNoPart, dPart, oI0, oI, oEq, oNe, oIsN, oIx, oIn, oAdd, oSub, oMul, oDiv, oMod, oShl, oShr, oAndB, oOrB, oXorB, oPow, oLt, oLe, oGt, oGe, cAbs, cMin, cMax, List.map_cons, List.map_nil, List.cons_append, List.nil_append, List.length_cons, List.length_nil, Nat.zero_add, Nat.reduceAdd, Nat.reduceSub, List.replicate_zero, List.replicate_succ, List.getElem?_cons_zero, List.getElem?_cons_succ, List.set_cons_zero, List.set_cons_succ, List.append_nil, fmD, numD, nk1, nk2, nk3, nk4, nk5, lk1, lk2, lk3, lk4, lk5, lk6, true_and, and_true, Nat.reduceLeDiff, decide_eq_true_eq]
  cases hs : b.sign
  · rw [hs] at hP
    rw [if_pos rfl] at hP
    rw [if_neg (by decide)]
    by_cases c : kd a = .zero
    · rw [if_pos c, inv_raw] at hP
      rw [if_pos c]; exact hP
    · rw [if_neg c] at hP
      rw [if_neg c, if_neg (by decide)]
      exact ⟨_, rfl, hP⟩
  · rw [hs] at hP
    rw [if_neg (by decide)] at hP
    rw [if_pos (by decide)]
    by_cases c : kd a = .infinite
    · rw [if_pos c, inv_raw] at hP
      rw [if_pos c]; exact hP
    · rw [if_neg c] at hP
      rw [if_neg c, if_pos (by decide)]
      exact ⟨_, rfl, hP⟩
theorem rd_places_to_scale : Rd T_places_to_scale 1 1 C_places_to_scale := by
  intro ds Pp hl h
  obtain ⟨b, rfl, hb, hP⟩ := h
  have kb := k_bnd hb
  have hfl := k_hi hb
  simp only [C_shifted, dSeq, dSet, dRet, dIfS, dNext, dOp, dVar, dC, dCall, dCons, dNil, dTest, dTruth, dTru, dAnd, dOr, dNot, dNotV, dAndV, dOrV, dIf, dNeg, dLst, dTup, dFld, dBitLen, dSl, dNoPart, dPart, oI0, oI, oEq, oNe, oIsN, oIx, oIn, oAdd, oSub, oMul, oDiv, oMod, oShl, oShr, oAndB, oOrB, oXorB, oPow, oLt, oLe, oGt, oGe, cAbs, cMin, cMax, List.map_cons, List.map_nil, List.cons_append, List.nil_append, List.length_cons, List.length_nil, Nat.zero_add, Nat.reduceAdd, Nat.reduceSub, List.replicate_zero, List.replicate_succ, List.getElem?_cons_zero, List.getElem?_cons_succ, List.set_cons_zero, List.set_cons_succ, List.append_nil, fmD, numD, nk1, nk2, nk3, nk4, nk5, lk1, lk2, lk3, lk4, lk5, lk6, true_and, and_true, Nat.reduceLeDiff, decide_eq_true_eq]
  refine ⟨b.frac, Format.extended.k b, rfl, by omega, by omega, ?_⟩
  generalize shf b.frac (Format.extended.k b) = N at *
  have hm : (if (40000 : Int) < (N : Int) then 40000 else (N : Int)) = ((min N 40000 : Nat) : Int) := by omega
  rw [hm]
  unfold sm at hP
  cases hs : b.sign
  · rw [hs] at hP
    simp only [Bool.false_eq_true, if_false] at hP
    rw [if_neg (by decide)]; exact hP
  · rw [hs] at hP
    simp only [if_true] at hP
    rw [if_pos (by decide)]; exact hP
theorem rd_scaled : Rd T_scaled 3 0 C_scaled := by
  intro ds Pp hl h
  obtain ⟨r, a, b, rfl, ha, hb, na, nb, hP⟩ := h
  have ka := k_bnd ha
  have kb := k_bnd hb
  have hfl := k_hi ha
  simp only [C_scaled_without_end, C_places_to_scale, C_rounded, Bool.false_eq_true, if_false, in_zi, ks_inf, dSeq, dSet, dRet, dIfS, dNext, dOp, dVar, dC, dCall, dCons, dNil, dTest, dTruth, dTru, dAnd, dOr, dNot, dNotV, dAndV, dOrV, dIf, dNeg, dLst, dTup, dFld, dBitLen, dSl, dNoPart, dPart, oI0, oI, oEq, oNe, oIsN, oIx, oIn, oAdd, oSub, oMul, oDiv, oMod, oShl, oShr, oAndB, oOrB, oXorB, oPow, oLt, oLe, oGt, oGe, cAbs, cMin, cMax, List.map_cons, List.map_nil, List.cons_append, List.nil_append, List.length_cons, List.length_nil, Nat.zero_add, Nat.reduceAdd, Nat.reduceSub, List.replicate_zero, List.replicate_succ, List.getElem?_cons_zero, List.getElem?_cons_succ, List.set_cons_zero, List.set_cons_succ, List.append_nil, fmD, numD, nk1, nk2, nk3, nk4, nk5, lk1, lk2, lk3, lk4, lk5, lk6, true_and, and_true, Nat.reduceLeDiff, decide_eq_true_eq]
  by_cases ib : kd b = .infinite
  · rw [if_pos ib]
    exact ⟨r, a, b, rfl, ha, ib, hP⟩
  · rw [if_neg ib]
    unfold Ew.Unit.scaleE at hP
    simp only [i0, z0] at hP
    rw [if_neg ib] at hP
    refine ⟨rfl, rfl, ?_⟩
    by_cases ca : kd a = .zero ∨ kd a = .infinite
    · rw [if_pos ca] at hP ⊢; exact hP
    · rw [if_neg ca, val_raw] at hP
      rw [if_neg ca]
      have fa := fin_of ha ((fin_or na).resolve_left (fun z => ca (.inr z)))
      have pa := fin_pos fa (fun z => ca (.inl z))
      rw [cutOf_V] at hP
      have hFAR : Ew.Unit.FAR = 70000 := rfl
      have hv : ∀ n : Int, Ew.Unit.V a * Ew.two n = ((sm a.sign a.frac : Int) : Rat) * Ew.two (Format.extended.k a + n) := by
        intro n
        rw [V_eq, Rat.mul_assoc, ← two_add]
      rw [ofRat_eq .extended 64 r _ (hv _) pa] at hP
      generalize hN : shf b.frac (Format.extended.k b) = N at *
      have hS : ∃ z : Int, z = sm b.sign (min N 40000) := ⟨_, rfl⟩
      obtain ⟨z, hz⟩ := hS
      have hzb : -40000 ≤ z ∧ z ≤ 40000 := by
        rw [hz]; unfold sm
        cases b.sign <;> simp only [Bool.false_eq_true, if_false, if_true] <;> omega
      have key : rnd .extended 64 r a.sign a.frac (Format.extended.k a + Ew.Unit.within (-Ew.Unit.FAR) Ew.Unit.FAR (sm b.sign N)) = rnd .extended 64 r a.sign a.frac (Format.extended.k a + z) := by
        rw [hFAR]
        by_cases c : N ≤ 40000
        · have : Ew.Unit.within (-70000) 70000 (sm b.sign N) = z := by
            rw [hz]; unfold Ew.Unit.within sm
            cases b.sign <;> simp only [Bool.false_eq_true, if_false, if_true] <;> omega
          rw [this]
        · cases hs : b.sign
          · have e1 : z = 40000 := by
              rw [hz, hs]; show ((min N 40000 : Nat) : Int) = _; omega
            have e2 : 40000 ≤ Ew.Unit.within (-70000) 70000 (sm false N) := by
              show 40000 ≤ max (-70000) (min 70000 (N : Int)); omega
            rw [rnd_over (by show (16383 : Int) < _; omega), rnd_over (by show (16383 : Int) < _; omega)]
          · have e1 : z = -40000 := by
              rw [hz, hs]; show -((min N 40000 : Nat) : Int) = _; omega
            have e2 : Ew.Unit.within (-70000) 70000 (sm true N) ≤ -40000 := by
              show max (-70000) (min 70000 (-(N : Int))) ≤ -40000; omega
            rw [rnd_tiny pa (by show _ < (-16382 : Int) - _; omega), rnd_tiny pa (by show _ < (-16382 : Int) - _; omega)]
      rw [key] at hP
      refine ⟨b, rfl, hb, a.sign, a.frac, Format.extended.k a + z, 64, r, ?_, pa, by omega, by omega, by omega, by decide, by decide, hP⟩
      rw [hN, hz]; rfl
end UX

set_option Elab.async false
set_option linter.all false
set_option maxRecDepth 100000
namespace UX
open PySem PySem.Spec PyProof.Rows L2 DD MX
open Ew (Float_ Format Rounding)
/-! ### remainders -/
def C_rounds_to_next : DCt := fun ds P => ∃ f R B : Nat, ds = [.int f, .int R, .int B] ∧ P (.bl (decide (B < 2 * R ∨ (2 * R = B ∧ f % 2 = 1))))
def C_quotient_bits : DCt := fun ds P => ∃ q : Nat, ds = [.int q] ∧ P (.int (Ew.Unit.bitsOf q : Nat))
def pMin (a b : Float_) : Int := min (Format.extended.k a) (Format.extended.k b)
def dvd (a : Float_) (p : Int) : Nat := a.frac * 2 ^ (Format.extended.k a - p).toNat
def nextQ (one : Bool) (f R B : Nat) : Bool := one && decide (B < 2 * R ∨ (2 * R = B ∧ f % 2 = 1))
def finR (one : Bool) (a b : Float_) : Float_ × Nat :=
  let A := dvd a (pMin a b)
  let B := dvd b (pMin a b)
  if nextQ one (A / B) (A % B) B = true then (Format.extended.make (!a.sign) (B - A % B) (pMin a b), A / B + 1) else (Format.extended.make a.sign (A % B) (pMin a b), A / B)
def C_finished_remainder : DCt := fun ds P => ∃ (one : Bool) (a b : Float_), ds = [numD a, numD b, .bl one] ∧ isFin a ∧ isFin b ∧ 0 < a.frac ∧ 0 < b.frac ∧ ((a.frac.log2 : Int) + Format.extended.k a) - ((b.frac.log2 : Int) + Format.extended.k b) < 64 ∧ P (.lst [.int (code .extended (finR one a b).1 : Nat), .int (Ew.Unit.bitsOf (finR one a b).2 : Nat), .int 0])
def dpw (b : Float_) (d : Int) : Int := Format.extended.k b + d - (32 + d % 32)
def parR (a b : Float_) (d : Int) : Float_ := Format.extended.make a.sign (dvd a (min (Format.extended.k a) (dpw b d)) % (b.frac * 2 ^ (dpw b d - min (Format.extended.k a) (dpw b d)).toNat)) (min (Format.extended.k a) (dpw b d))
def C_partial_remainder : DCt := fun ds P => ∃ (a b : Float_) (d : Int), ds = [numD a, numD b, .int d] ∧ isFin a ∧ isFin b ∧ 0 < a.frac ∧ 0 < b.frac ∧ 64 ≤ d ∧ d ≤ 2 ^ 16 ∧ P (.lst [.int (code .extended (parR a b d) : Nat), .int 4, .int 0])
def remRaw (one : Bool) (a b : Float_) : Float_ × Nat × Nat :=
  if kd a = .infinite ∨ kd b = .zero then (Format.extended.empty, 0, 1) else if kd b = .infinite ∨ kd a = .zero then (canon a, 0, 0)
  else if ((a.frac.log2 : Int) + Format.extended.k a) - ((b.frac.log2 : Int) + Format.extended.k b) < 64 then ((finR one a b).1, Ew.Unit.bitsOf (finR one a b).2, 0)
  else (parR a b (((a.frac.log2 : Int) + Format.extended.k a) - ((b.frac.log2 : Int) + Format.extended.k b)), 4, 0)
def C_remainder : DCt := fun ds P => ∃ (one : Bool) (a b : Float_), ds = [numD a, numD b, .bl one] ∧ OkE a ∧ OkE b ∧ (kd a).none_ = false ∧ (kd b).none_ = false ∧ P (.lst [.int (code .extended (remRaw one a b).1 : Nat), .int ((remRaw one a b).2.1 : Nat), .int ((remRaw one a b).2.2 : Nat)])
@[reducible] def T_rounds_to_next : DS := (dRet (dOrV (dOp oGt (dOp oMul (dC (.int 2)) (dVar 1)) (dVar 2)) (dAndV (dOp oEq (dOp oMul (dC (.int 2)) (dVar 1)) (dVar 2)) (dOp oEq (dOp oMod (dVar 0) (dC (.int 2))) (dC (.int 1))))))
@[reducible] def T_quotient_bits : DS := (dRet (dOp oAdd (dOp oAdd (dOp oMul (dOp oAndB (dVar 0) (dC (.int 1))) (dC (.int 2))) (dOp oMul (dOp oAndB (dOp oShr (dVar 0) (dC (.int 1))) (dC (.int 1))) (dC (.int 8)))) (dOp oAndB (dOp oShr (dVar 0) (dC (.int 2))) (dC (.int 1)))))
@[reducible] def T_finished_remainder : DS := (dSeq (dSet 3 (dCall cMin (dCons (dFld (dVar 0) "Number" "power") (dCons (dFld (dVar 1) "Number" "power") dNil))))
  (dSeq (dSet 4 (dOp oShl (dFld (dVar 0) "Number" "significand") (dOp oSub (dFld (dVar 0) "Number" "power") (dVar 3))))
  (dSeq (dSet 5 (dOp oShl (dFld (dVar 1) "Number" "significand") (dOp oSub (dFld (dVar 1) "Number" "power") (dVar 3))))
  (dSeq (dSet 6 (dOp oDiv (dVar 4) (dVar 5)))
  (dSeq (dSet 7 (dOp oMod (dVar 4) (dVar 5)))
  (dSeq (dIfS (dAnd (dTruth (dVar 2)) (dTruth (dCall (fun ds P => ds.length = 3 ∧ C_rounds_to_next ds P) (dCons (dVar 6) (dCons (dVar 7) (dCons (dVar 5) dNil)))))) (dSeq (dSet 6 (dOp oAdd (dVar 6) (dC (.int 1))))
  (dSet 7 (dOp oSub (dVar 7) (dVar 5)))) dNext)
  (dSeq (dSet 8 (dIf (dTest (dOp oLt (dVar 7) (dC (.int 0)))) (dOp oSub (dC (.int 1)) (dFld (dVar 0) "Number" "sign")) (dFld (dVar 0) "Number" "sign")))
  (dRet (dLst (dCons (dCall (fun ds P => ds.length = 3 ∧ C_finite_bits ds P) (dCons (dVar 8) (dCons (dCall cAbs (dCons (dVar 7) dNil)) (dCons (dVar 3) dNil)))) (dCons (dCall (fun ds P => ds.length = 1 ∧ C_quotient_bits ds P) (dCons (dVar 6) dNil)) (dCons (dC (.int 0)) dNil))))))))))))
@[reducible] def T_partial_remainder : DS := (dSeq (dSet 3 (dOp oSub (dOp oAdd (dFld (dVar 1) "Number" "power") (dVar 2)) (dOp oAdd (dC (.int 32)) (dOp oMod (dVar 2) (dC (.int 32))))))
  (dSeq (dSet 4 (dCall cMin (dCons (dFld (dVar 0) "Number" "power") (dCons (dVar 3) dNil))))
  (dSeq (dSet 5 (dOp oShl (dFld (dVar 0) "Number" "significand") (dOp oSub (dFld (dVar 0) "Number" "power") (dVar 4))))
  (dSeq (dSet 6 (dOp oShl (dFld (dVar 1) "Number" "significand") (dOp oSub (dVar 3) (dVar 4))))
  (dRet (dLst (dCons (dCall (fun ds P => ds.length = 3 ∧ C_finite_bits ds P) (dCons (dFld (dVar 0) "Number" "sign") (dCons (dOp oMod (dVar 5) (dVar 6)) (dCons (dVar 4) dNil)))) (dCons (dC (.int 4)) (dCons (dC (.int 0)) dNil)))))))))
@[reducible] def T_remainder : DS := (dSeq (dIfS (dOr (dTest (dOp oEq (dFld (dVar 0) "Number" "kind") (dC (.str "infinite")))) (dTest (dOp oEq (dFld (dVar 1) "Number" "kind") (dC (.str "zero"))))) (dRet (dLst (dCons (dC (.int 1208921207928610747318272)) (dCons (dC (.int 0)) (dCons (dC (.int 1)) dNil))))) dNext)
  (dSeq (dIfS (dOr (dTest (dOp oEq (dFld (dVar 1) "Number" "kind") (dC (.str "infinite")))) (dTest (dOp oEq (dFld (dVar 0) "Number" "kind") (dC (.str "zero"))))) (dRet (dLst (dCons (dCall (fun ds P => ds.length = 1 ∧ C_bits_by_value ds P) (dCons (dVar 0) dNil)) (dCons (dC (.int 0)) (dCons (dC (.int 0)) dNil))))) dNext)
  (dSeq (dSet 3 (dOp oSub (dCall (fun ds P => ds.length = 1 ∧ C_exponent_of ds P) (dCons (dVar 0) dNil)) (dCall (fun ds P => ds.length = 1 ∧ C_exponent_of ds P) (dCons (dVar 1) dNil))))
  (dSeq (dIfS (dTest (dOp oLt (dVar 3) (dC (.int 64)))) (dRet (dCall (fun ds P => ds.length = 3 ∧ C_finished_remainder ds P) (dCons (dVar 0) (dCons (dVar 1) (dCons (dVar 2) dNil))))) dNext)
  (dRet (dCall (fun ds P => ds.length = 3 ∧ C_partial_remainder ds P) (dCons (dVar 0) (dCons (dVar 1) (dCons (dVar 3) dNil)))))))))
theorem rd_rounds_to_next : Rd T_rounds_to_next 3 0 C_rounds_to_next := by
  intro ds Pp hl h
  obtain ⟨f, R, B, rfl, hP⟩ := h
  simp only [dSeq, dSet, dRet, dIfS, dNext, dOp, dVar, dC, dCall, dCons, dNil, dTest, dTruth, dTru, dAnd, dOr, dNot, dNotV, dAndV, dOrV, dIf, dNeg, dLst, dTup, dFld, dBitLen, dSl, dNoPart, dPart, oI0, oI, oEq, oNe, oIsN, oIx, oIn, oAdd, oSub, oMul, oDiv, oMod, oShl, oShr, oAndB, oOrB, oXorB, oPow, oLt, oLe, oGt, oGe, cAbs, cMin, cMax, List.map_cons, List.map_nil, List.cons_append, List.nil_append, List.length_cons, List.length_nil, Nat.zero_add, Nat.reduceAdd, Nat.reduceSub, List.replicate_zero, List.replicate_succ, List.getElem?_cons_zero, List.getElem?_cons_succ, List.set_cons_zero, List.set_cons_succ, List.append_nil, fmD, numD, nk1, nk2, nk3, nk4, nk5, lk1, lk2, lk3, lk4, lk5, lk6, true_and, and_true, Nat.reduceLeDiff, decide_eq_true_eq]
  refine ⟨mul_small' (by decide), ?_⟩
  by_cases c : B < 2 * R
  · rw [if_pos (by omega)]
    have : decide (B < 2 * R ∨ (2 * R = B ∧ f % 2 = 1)) = true := decide_eq_true (.inl c)
    rw [this] at hP; exact hP
  · rw [if_neg (by omega)]
    refine ⟨mul_small' (by decide), ?_⟩
    by_cases c2 : 2 * R = B
    · rw [if_pos (by omega)]
      have : decide (B < 2 * R ∨ (2 * R = B ∧ f % 2 = 1)) = decide ((f : Int) % 2 = 1) := decide_eq_decide.mpr (by omega)
      rw [this] at hP
      exact ⟨by decide, hP⟩
    · rw [if_neg (by omega)]
      have : decide (B < 2 * R ∨ (2 * R = B ∧ f % 2 = 1)) = false := decide_eq_false (by omega)
      rw [this] at hP; exact hP
theorem rd_quotient_bits : Rd T_quotient_bits 1 0 C_quotient_bits := by
  intro ds Pp hl h
  obtain ⟨q, rfl, hP⟩ := h
  simp only [dSeq, dSet, dRet, dIfS, dNext, dOp, dVar, dC, dCall, dCons, dNil, dTest, dTruth, dTru, dAnd, dOr, dNot, dNotV, dAndV, dOrV, dIf, dNeg, dLst, dTup, dFld, dBitLen, dSl, dNoPart, dPart, oI0, oI, oEq, oNe, oIsN, oIx, oIn, oAdd, oSub, oMul, oDiv, oMod, oShl, oShr, oAndB, oOrB, oXorB, oPow, oLt, oLe, oGt, oGe, cAbs, cMin, cMax, List.map_cons, List.map_nil, List.cons_append, List.nil_append, List.length_cons, List.length_nil, Nat.zero_add, Nat.reduceAdd, Nat.reduceSub, List.replicate_zero, List.replicate_succ, List.getElem?_cons_zero, List.getElem?_cons_succ, List.set_cons_zero, List.set_cons_succ, List.append_nil, fmD, numD, nk1, nk2, nk3, nk4, nk5, lk1, lk2, lk3, lk4, lk5, lk6, true_and, and_true, Nat.reduceLeDiff, decide_eq_true_eq]
  have a0 : Builtin.bitAnd (q : Int) 1 = ((q % 2 : Nat) : Int) := mask_nat q 1
  have a1 : Builtin.bitAnd ((q : Int) / 2 ^ (1 : Int).toNat) 1 = ((q / 2 % 2 : Nat) : Int) := by
    have : (1 : Int).toNat = 1 := rfl
    rw [this, shr_nat]; exact mask_nat (q / 2 ^ 1) 1
  have a2 : Builtin.bitAnd ((q : Int) / 2 ^ (2 : Int).toNat) 1 = ((q / 4 % 2 : Nat) : Int) := by
    have : (2 : Int).toNat = 2 := rfl
    rw [this, shr_nat]; exact mask_nat (q / 2 ^ 2) 1
  rw [a0, a1, a2]
  refine ⟨mul_small (by decide), by decide, mul_small (by decide), by decide, ?_⟩
  have e : ((Ew.Unit.bitsOf q : Nat) : Int) = ((q % 2 : Nat) : Int) * 2 + ((q / 2 % 2 : Nat) : Int) * 8 + ((q / 4 % 2 : Nat) : Int) := by
    unfold Ew.Unit.bitsOf
    have h0 : q % 2 = 0 ∨ q % 2 = 1 := by omega
    have h1 : q / 2 % 2 = 0 ∨ q / 2 % 2 = 1 := by omega
    have h2 : q / 4 % 2 = 0 ∨ q / 4 % 2 = 1 := by omega
    rcases h0 with h0 | h0 <;> rcases h1 with h1 | h1 <;> rcases h2 with h2 | h2 <;> rw [h0, h1, h2] <;> decide
  rw [e] at hP
  exact hP
theorem shl_nat {x : Float_} (hf : isFin x) {p : Int} (h1 : p ≤ Format.extended.k x) (h2 : -(2 ^ 17) ≤ p) : CShl (x.frac : Int) (Format.extended.k x - p) ∧ (x.frac : Int) * 2 ^ (Format.extended.k x - p).toNat = ((dvd x p : Nat) : Int) := by
  have hk := k_eq x
  have he := hf.1
  have hl : x.frac.log2 ≤ 64 := log2_lt' hf.2.2
  refine ⟨shl_ok (by omega) (by omega) (by omega), ?_⟩
  unfold dvd
  rw [ipow]; norm_cast
/-- a rest has no more digits than its operands -/
theorem rest_lt {ma mb : Nat} {ka kb : Int} (hb : 0 < mb) (la : ma < 2 ^ 64) (lb : mb < 2 ^ 64) : ma * 2 ^ (ka - min ka kb).toNat % (mb * 2 ^ (kb - min ka kb).toNat) < 2 ^ 64 ∧ (mb * 2 ^ (kb - min ka kb).toNat ≤ 2 * (ma * 2 ^ (ka - min ka kb).toNat % (mb * 2 ^ (kb - min ka kb).toNat)) → mb * 2 ^ (kb - min ka kb).toNat - ma * 2 ^ (ka - min ka kb).toNat % (mb * 2 ^ (kb - min ka kb).toNat) < 2 ^ 64) := by
  have hB := Nat.mul_pos hb (p2pos (kb - min ka kb).toNat)
  have hlt := Nat.mod_lt (ma * 2 ^ (ka - min ka kb).toNat) hB
  by_cases c : kb ≤ ka
  · have e : (kb - min ka kb).toNat = 0 := by omega
    rw [e, Nat.pow_zero, Nat.mul_one] at hlt ⊢
    exact ⟨by omega, fun _ => by omega⟩
  · have e : (ka - min ka kb).toNat = 0 := by omega
    rw [e, Nat.pow_zero, Nat.mul_one] at hlt ⊢
    have := Nat.mod_le ma (mb * 2 ^ (kb - min ka kb).toNat)
    exact ⟨by omega, fun h => by omega⟩
theorem rest_log {R A : Nat} (h : R ≤ A) : R = 0 ∨ R.log2 ≤ A.log2 := by
  by_cases z : R = 0
  · exact .inl z
  · right
    have h1 := (log2_spec (m := R) (by omega)).1
    have h2 := (log2_spec (m := A) (by omega)).2
    have := (Nat.pow_lt_pow_iff_right (a := 2) (by decide)).mp (Nat.lt_of_le_of_lt (Nat.le_trans h1 h) h2)
    omega
theorem dvd_log {x : Float_} (hx : 0 < x.frac) {p : Int} (h : p ≤ Format.extended.k x) : ((dvd x p).log2 : Int) + p = (x.frac.log2 : Int) + Format.extended.k x := by
  unfold dvd
  rw [log2_mul hx]; omega
theorem div_ok2 {A B : Nat} (hB : 0 < B) (h : A.log2 ≤ B.log2 + 4000) : CDivB (A : Int) (B : Int) := by
  refine ⟨by omega, ?_⟩
  unfold Builtin.divisionGoesByPylong
  have e : ((B : Int) == 0) = false := by simp; omega
  have : decide ((if ((A : Int) == 0) = true then 0 else (A : Int).natAbs.log2 / 30 + 1) > (if ((B : Int) == 0) = true then 0 else (B : Int).natAbs.log2 / 30 + 1) + 150) = false := by
    apply decide_eq_false
    rw [e]
    simp only [Int.natAbs_natCast, Bool.false_eq_true, if_false]
    split <;> omega
  simp only [this, Bool.and_false]
theorem sg_not (s : Bool) : 1 - sg s = sg (!s) := by cases s <;> rfl
theorem rd_finished_remainder : Rd T_finished_remainder 3 6 C_finished_remainder := by
  intro ds Pp hl h
  obtain ⟨one, a, b, rfl, fa, fb, pa, pb, hd, hP⟩ := h
  have ka := k_eq a
  have kb := k_eq b
  have ea := fa.1
  have eb := fb.1
  have hmin : (if Format.extended.k b < Format.extended.k a then Format.extended.k b else Format.extended.k a) = pMin a b := by unfold pMin; omega
  have p1 : pMin a b ≤ Format.extended.k a := by unfold pMin; omega
  have p2 : pMin a b ≤ Format.extended.k b := by unfold pMin; omega
  have p3 : -(2 ^ 15) ≤ pMin a b := by unfold pMin; omega
  have p4 : pMin a b ≤ 2 ^ 15 := by omega
  obtain ⟨sa, va⟩ := shl_nat fa p1 (by omega)
  obtain ⟨sb, vb⟩ := shl_nat fb p2 (by omega)
  have lA := dvd_log pa p1
  have lB := dvd_log pb p2
  have xa := fin_exp fa
  have xb := fin_exp fb
  have hBpos : 0 < dvd b (pMin a b) := by unfold dvd; exact Nat.mul_pos pb (p2pos _)
  have rl := rest_lt (ma := a.frac) (mb := b.frac) (ka := Format.extended.k a) (kb := Format.extended.k b) pb fa.2.2 fb.2.2
  have rl1 : dvd a (pMin a b) % dvd b (pMin a b) < 2 ^ 64 := rl.1
  have rl2 : dvd b (pMin a b) ≤ 2 * (dvd a (pMin a b) % dvd b (pMin a b)) → dvd b (pMin a b) - dvd a (pMin a b) % dvd b (pMin a b) < 2 ^ 64 := rl.2
  have hmodle := Nat.mod_le (dvd a (pMin a b)) (dvd b (pMin a b))
  have hmodlt := Nat.mod_lt (dvd a (pMin a b)) hBpos
  have rlog := rest_log hmodle
  unfold finR at hP
  dsimp only at hP
  simp only [hmin, va, vb, C_rounds_to_next, C_finite_bits, C_quotient_bits, sg_not, dSeq, dSet, dRet, dIfS, dNext, dOp, dVar, dC, dCall, dCons, dNil, dTest, dTruth, dTru, dAnd, dOr, dNot, dNotV, dAndV, dOrV, dIf, dNeg, dLst, dTup, dFld, dBitLen, dSl, dNoPart, dPart, oI0, oI, oEq, oNe, oIsN, oIx, oIn, oAdd, oSub, oMul, oDiv, oMod, oShl, oShr, oAndB, oOrB, oXorB, oPow, oLt, oLe, oGt, oGe, cAbs, cMin, cMax, List.map_cons, List.map_nil, List.cons_append, List.nil_append, List.length_cons, List.length_nil, Nat.zero_add, Nat.reduceAdd, Nat.reduceSub, List.replicate_zero, List.replicate_succ, List.getElem?_cons_zero, List.getElem?_cons_succ, List.set_cons_zero, List.set_cons_succ, List.append_nil, fmD, numD, nk1, nk2, nk3, nk4, nk5, lk1, lk2, lk3, lk4, lk5, lk6, true_and, and_true, Nat.reduceLeDiff, decide_eq_true_eq]
  refine ⟨sa, sb, div_ok2 hBpos (by omega), by omega, ?_⟩
  rw [← Int.natCast_ediv, ← Int.natCast_emod]
  generalize hA : dvd a (pMin a b) = A at *
  generalize hBd : dvd b (pMin a b) = B at *
  generalize hQ : A / B = Q at *
  generalize hR : A % B = R at *
  have plain : Pp (D.lst [D.int (code .extended (Format.extended.make a.sign R (pMin a b)) : Nat), D.int (Ew.Unit.bitsOf Q : Nat), D.int 0]) →
      (if (R : Int) < 0 then ∃ (s : Bool) (m : Nat) (k : Int), [D.int (sg (!a.sign)), D.int (if (R : Int) < 0 then -(R : Int) else (R : Int)), D.int (pMin a b)] = [D.int (sg s), D.int m, D.int k] ∧ m.log2 ≤ 2 ^ 19 ∧ -(2 ^ 19) ≤ k ∧ k ≤ 2 ^ 19 ∧ (m = 0 ∨ (m.log2 : Int) + k ≤ 16383) ∧ ∃ q : Nat, [D.int (Q : Int)] = [D.int (q : Int)] ∧ Pp (D.lst [D.int (code .extended (Format.extended.make s m k) : Nat), D.int (Ew.Unit.bitsOf q : Nat), D.int 0])
      else ∃ (s : Bool) (m : Nat) (k : Int), [D.int (sg a.sign), D.int (if (R : Int) < 0 then -(R : Int) else (R : Int)), D.int (pMin a b)] = [D.int (sg s), D.int m, D.int k] ∧ m.log2 ≤ 2 ^ 19 ∧ -(2 ^ 19) ≤ k ∧ k ≤ 2 ^ 19 ∧ (m = 0 ∨ (m.log2 : Int) + k ≤ 16383) ∧ ∃ q : Nat, [D.int (Q : Int)] = [D.int (q : Int)] ∧ Pp (D.lst [D.int (code .extended (Format.extended.make s m k) : Nat), D.int (Ew.Unit.bitsOf q : Nat), D.int 0])) := by
    intro hp
    rw [if_neg (by omega), if_neg (by omega)]
    have hl64 := log2_lt' rl1
    refine ⟨a.sign, R, pMin a b, rfl, by omega, by omega, by omega, ?_, Q, rfl, hp⟩
    rcases rlog with z | z
    · exact .inl z
    · exact .inr (by omega)
  cases one
  · rw [if_neg (by decide), if_neg (by decide)]
    have : nextQ false Q R B = false := rfl
    rw [this, if_neg (by decide)] at hP
    exact plain hP
  · rw [if_pos rfl]
    refine ⟨Q, R, B, rfl, ?_⟩
    by_cases c : B < 2 * R ∨ (2 * R = B ∧ Q % 2 = 1)
    · have : nextQ true Q R B = true := by show (true && decide _) = true; rw [decide_eq_true c]; rfl
      rw [this, if_pos rfl] at hP
      rw [if_pos c, if_pos (by omega), if_pos (by omega)]
      have hle : B - R ≤ A := by omega
      have hl64 := log2_lt' (rl2 (by omega))
      refine ⟨!a.sign, B - R, pMin a b, ?_, by omega, by omega, by omega, ?_, Q + 1, rfl, hP⟩
      · have : -((R : Int) - (B : Int)) = ((B - R : Nat) : Int) := by omega
        rw [this]
      · rcases rest_log hle with z | z
        · exact .inl z
        · exact .inr (by omega)
    · have : nextQ true Q R B = false := by show (true && decide _) = false; rw [decide_eq_false c]; rfl
      rw [this, if_neg (by decide)] at hP
      rw [if_neg c]
      exact plain hP
theorem rest_lt2 {ma mb : Nat} {ka kb : Int} (hb : 0 < mb) (la : ma < 2 ^ 64) (lb : mb < 2 ^ 64) : ma * 2 ^ (ka - min ka kb).toNat % (mb * 2 ^ (kb - min ka kb).toNat) < 2 ^ 64 := (rest_lt hb la lb).1
theorem rd_partial_remainder : Rd T_partial_remainder 3 4 C_partial_remainder := by
  intro ds Pp hl h
  obtain ⟨a, b, d, rfl, fa, fb, pa, pb, hd1, hd2, hP⟩ := h
  have ka := k_eq a
  have kb := k_eq b
  have ea := fa.1
  have eb := fb.1
  unfold parR at hP
  simp only [C_finite_bits, dSeq, dSet, dRet, dIfS, dNext, dOp, dVar, dC, dCall, dCons, dNil, dTest, dTruth, dTru, dAnd, dOr, dNot, dNotV, dAndV, dOrV, dIf, dNeg, dLst, dTup, dFld, dBitLen, dSl, dNoPart, dPart, oI0, oI, oEq, oNe, oIsN, oIx, oIn, oAdd, oSub, oMul, oDiv, oMod, oShl, oShr, oAndB, oOrB, oXorB, oPow, oLt, oLe, oGt, oGe, cAbs, cMin, cMax, List.map_cons, List.map_nil, List.cons_append, List.nil_append, List.length_cons, List.length_nil, Nat.zero_add, Nat.reduceAdd, Nat.reduceSub, List.replicate_zero, List.replicate_succ, List.getElem?_cons_zero, List.getElem?_cons_succ, List.set_cons_zero, List.set_cons_succ, List.append_nil, fmD, numD, nk1, nk2, nk3, nk4, nk5, lk1, lk2, lk3, lk4, lk5, lk6, true_and, and_true, Nat.reduceLeDiff, decide_eq_true_eq]
  have hdp : Format.extended.k b + d - (32 + d % 32) = dpw b d := rfl
  rw [hdp]
  have hdb : -(2 ^ 15) ≤ dpw b d ∧ dpw b d ≤ 2 ^ 17 := by unfold dpw; omega
  have hmin : (if dpw b d < Format.extended.k a then dpw b d else Format.extended.k a) = min (Format.extended.k a) (dpw b d) := by omega
  rw [hmin]
  have rl := rest_lt2 (ma := a.frac) (mb := b.frac) (ka := Format.extended.k a) (kb := dpw b d) pb fa.2.2 fb.2.2
  generalize hp : min (Format.extended.k a) (dpw b d) = p at *
  obtain ⟨sa, va⟩ := shl_nat fa (p := p) (by omega) (by omega)
  have hlb : b.frac.log2 ≤ 64 := log2_lt' fb.2.2
  have vb : (b.frac : Int) * 2 ^ (dpw b d - p).toNat = ((b.frac * 2 ^ (dpw b d - p).toNat : Nat) : Int) := by rw [ipow]; norm_cast
  rw [va, vb]
  have hBpos := Nat.mul_pos pb (p2pos (dpw b d - p).toNat)
  have lA := dvd_log pa (p := p) (by omega)
  have xa := fin_exp fa
  have hmodle := Nat.mod_le (dvd a p) (b.frac * 2 ^ (dpw b d - p).toNat)
  have rlog := rest_log hmodle
  have rl1 : dvd a p % (b.frac * 2 ^ (dpw b d - p).toNat) < 2 ^ 64 := rl
  have hl64 := log2_lt' rl1
  refine ⟨by decide, sa, shl_ok (by omega) (by omega) (by omega), by omega, a.sign, dvd a p % (b.frac * 2 ^ (dpw b d - p).toNat), p, ?_, by omega, by omega, by omega, ?_, hP⟩
  · rw [← Int.natCast_emod]
  · rcases rlog with z | z
    · exact .inl z
    · exact .inr (by omega)
theorem rd_remainder : Rd T_remainder 3 1 C_remainder := by
  intro ds Pp hl h
  obtain ⟨one, a, b, rfl, ha, hb, na, nb, hP⟩ := h
  unfold remRaw at hP
  simp only [C_bits_by_value, C_exponent_of, C_finished_remainder, C_partial_remainder, ks_inf, ks_zero, dSeq, dSet, dRet, dIfS, dNext, dOp, dVar, dC, dCall, dCons, dNil, dTest, dTruth, dTru, dAnd, dOr, dNot, dNotV, dAndV, dOrV, dIf, dNeg, dLst, dTup, dFld, dBitLen, dSl, dNoPart, dPart, oI0, oI, oEq, oNe, oIsN, oIx, oIn, oAdd, oSub, oMul, oDiv, oMod, oShl, oShr, oAndB, oOrB, oXorB, oPow, oLt, oLe, oGt, oGe, cAbs, cMin, cMax, List.map_cons, List.map_nil, List.cons_append, List.nil_append, List.length_cons, List.length_nil, Nat.zero_add, Nat.reduceAdd, Nat.reduceSub, List.replicate_zero, List.replicate_succ, List.getElem?_cons_zero, List.getElem?_cons_succ, List.set_cons_zero, List.set_cons_succ, List.append_nil, fmD, numD, nk1, nk2, nk3, nk4, nk5, lk1, lk2, lk3, lk4, lk5, lk6, true_and, and_true, Nat.reduceLeDiff, decide_eq_true_eq]
  by_cases c1 : kd a = .infinite ∨ kd b = .zero
  · rw [if_pos c1] at hP
    dsimp only at hP
    rw [empty_code] at hP
    by_cases ia : kd a = .infinite
    · rw [if_pos ia, if_pos trivial]; exact hP
    · rw [if_neg ia, if_pos (c1.resolve_left ia)]; exact hP
  · rw [if_neg c1] at hP
    have ia : ¬ kd a = .infinite := fun z => c1 (.inl z)
    have zb : ¬ kd b = .zero := fun z => c1 (.inr z)
    rw [if_neg ia, if_neg zb]
    have fa := fin_of ha ((fin_or na).resolve_left ia)
    by_cases c2 : kd b = .infinite ∨ kd a = .zero
    · rw [if_pos c2] at hP
      have hbv : byV a = canon a := by unfold byV; rw [if_neg ia]
      dsimp only at hP
      rw [← hbv] at hP
      by_cases ib : kd b = .infinite
      · rw [if_pos ib, if_pos trivial]
        exact ⟨a, rfl, ha, na, hP⟩
      · rw [if_neg ib, if_pos (c2.resolve_left ib)]
        exact ⟨a, rfl, ha, na, hP⟩
    · rw [if_neg c2] at hP
      have ib : ¬ kd b = .infinite := fun z => c2 (.inl z)
      have za : ¬ kd a = .zero := fun z => c2 (.inr z)
      rw [if_neg ib, if_neg za]
      have fb := fin_of hb ((fin_or nb).resolve_left ib)
      have pa := fin_pos fa za
      have pb := fin_pos fb zb
      have ka := k_bnd ha
      have kb := k_bnd hb
      have la := k_hi ha
      have lb := k_hi hb
      refine ⟨a, rfl, pa, b, rfl, pb, ?_⟩
      by_cases c3 : ((a.frac.log2 : Int) + Format.extended.k a) - ((b.frac.log2 : Int) + Format.extended.k b) < 64
      · rw [if_pos c3] at hP
        rw [if_pos c3]
        exact ⟨one, a, b, rfl, fa, fb, pa, pb, c3, hP⟩
      · rw [if_neg c3] at hP
        rw [if_neg c3]
        exact ⟨a, b, _, rfl, fa, fb, pa, pb, by omega, by omega, hP⟩
end UX

set_option Elab.async false
set_option linter.all false
set_option maxRecDepth 100000
namespace MX
open Ew
/-! ### remainders as whole numbers -/
theorem natR (n : Nat) : ((n : Nat) : Rat) = (((n : Nat) : Int) : Rat) := rfl
theorem quot_mul {A B : Nat} (hB : 0 < B) : ((A : Nat) : Rat) / ((B : Nat) : Rat) * ((B : Nat) : Rat) = ((A : Nat) : Rat) := by
  have : ((B : Nat) : Rat) ≠ 0 := fun h => by have := Rat.natCast_eq_zero_iff.mp h; omega
  exact Rat.div_mul_cancel this
theorem quot_scale {A B : Nat} (hB : 0 < B) (p : Int) : ((A : Nat) : Rat) * two p / (((B : Nat) : Rat) * two p) = ((A : Nat) : Rat) / ((B : Nat) : Rat) := by
  have h1 := quot_mul (A := A) hB
  have h2 : ((B : Nat) : Rat) * two p ≠ 0 := fun h => by
    rcases Rat.mul_eq_zero.mp h with z | z
    · have := Rat.natCast_eq_zero_iff.mp z; omega
    · exact two_ne p z
  have h3 : ((A : Nat) : Rat) * two p = ((A : Nat) : Rat) / ((B : Nat) : Rat) * (((B : Nat) : Rat) * two p) := by rw [← Rat.mul_assoc, h1]
  rw [h3, Rat.mul_div_cancel h2]
theorem quot_floor {A B : Nat} (hB : 0 < B) : (((A : Nat) : Rat) / ((B : Nat) : Rat)).floor = ((A / B : Nat) : Int) := by
  have h := quot_mul (A := A) hB
  generalize ((A : Nat) : Rat) / ((B : Nat) : Rat) = v at *
  have hpos : (0 : Rat) < ((B : Nat) : Rat) := Rat.natCast_pos.mpr hB
  apply Int.le_antisymm
  · have h1 := Rat.floor_le v
    have h2 : ((v.floor : Int) : Rat) * ((B : Nat) : Rat) ≤ v * ((B : Nat) : Rat) := Rat.mul_le_mul_of_nonneg_right h1 (Rat.le_of_lt hpos)
    rw [h, natR, natR, ← Rat.intCast_mul, Rat.intCast_le_intCast] at h2
    rw [Int.natCast_ediv]
    exact (Int.le_ediv_iff_mul_le (by omega)).mpr h2
  · rw [Rat.le_floor_iff]
    have h1 : (((A / B : Nat) : Int) : Rat) * ((B : Nat) : Rat) ≤ v * ((B : Nat) : Rat) := by
      rw [h, natR, natR, ← Rat.intCast_mul, Rat.intCast_le_intCast]
      have := Nat.div_mul_le_self A B
      exact_mod_cast this
    exact Rat.le_of_mul_le_mul_right h1 hpos
theorem quot_rest {A B : Nat} (hB : 0 < B) : (((A : Nat) : Rat) / ((B : Nat) : Rat) - (((A / B : Nat) : Int) : Rat)) * ((B : Nat) : Rat) = ((A % B : Nat) : Rat) := by
  have h := quot_mul (A := A) hB
  rw [Rat.sub_eq_add_neg, Rat.add_mul, h, Rat.neg_mul]
  have dm := Nat.div_add_mod A B
  have e : ((A : Nat) : Rat) = (((A / B : Nat) : Int) : Rat) * ((B : Nat) : Rat) + ((A % B : Nat) : Rat) := by
    rw [natR, natR, natR, ← Rat.intCast_mul, ← Rat.intCast_add]
    congr 1
    rw [Nat.mul_comm] at dm
    exact_mod_cast dm.symm
  rw [e]
  generalize (((A / B : Nat) : Int) : Rat) * ((B : Nat) : Rat) = x
  grind
theorem quot_cut {A B : Nat} (hB : 0 < B) : Ew.Unit.cutOf (((A : Nat) : Rat) / ((B : Nat) : Rat)) = ((A / B : Nat) : Int) := by
  unfold Ew.Unit.cutOf
  have h := quot_mul (A := A) hB
  have hpos : (0 : Rat) < ((B : Nat) : Rat) := Rat.natCast_pos.mpr hB
  have hn : ¬ ((A : Nat) : Rat) / ((B : Nat) : Rat) < 0 := fun q => by
    have h1 := (Rat.mul_neg_iff_of_pos_right hpos).mpr q
    rw [h] at h1
    exact absurd h1 (Rat.not_lt.mpr Rat.natCast_nonneg)
  rw [if_neg hn, quot_floor hB]
theorem quot_near {A B : Nat} (hB : 0 < B) : Ew.Unit.nearestOf (((A : Nat) : Rat) / ((B : Nat) : Rat)) = if B < 2 * (A % B) ∨ (2 * (A % B) = B ∧ A / B % 2 = 1) then ((A / B + 1 : Nat) : Int) else ((A / B : Nat) : Int) := by
  unfold Ew.Unit.nearestOf
  have hpos : (0 : Rat) < ((B : Nat) : Rat) := Rat.natCast_pos.mpr hB
  have hr := quot_rest (A := A) hB
  rw [quot_floor hB]
  dsimp only
  generalize ((A : Nat) : Rat) / ((B : Nat) : Rat) - (((A / B : Nat) : Int) : Rat) = d at *
  have half : (1 / 2 : Rat) * ((B : Nat) : Rat) + (1 / 2 : Rat) * ((B : Nat) : Rat) = ((B : Nat) : Rat) := by grind
  have e1 : d < 1 / 2 ↔ 2 * (A % B) < B := by
    rw [← Rat.mul_lt_mul_right hpos, hr]
    have : ((2 * (A % B) : Nat) : Rat) = ((A % B : Nat) : Rat) + ((A % B : Nat) : Rat) := by rw [Nat.two_mul, Rat.natCast_add]
    rw [← Rat.natCast_lt_natCast (a := 2 * (A % B)), this]
    generalize ((A % B : Nat) : Rat) = r
    generalize ((B : Nat) : Rat) = b at *
    constructor
    · intro h; grind
    · intro h; grind
  have e2 : 1 / 2 < d ↔ B < 2 * (A % B) := by
    rw [← Rat.mul_lt_mul_right hpos, hr]
    have : ((2 * (A % B) : Nat) : Rat) = ((A % B : Nat) : Rat) + ((A % B : Nat) : Rat) := by rw [Nat.two_mul, Rat.natCast_add]
    rw [← Rat.natCast_lt_natCast (a := B), this]
    generalize ((A % B : Nat) : Rat) = r
    generalize ((B : Nat) : Rat) = b at *
    constructor
    · intro h; grind
    · intro h; grind
  simp only [e1, e2]
  by_cases c1 : 2 * (A % B) < B
  · rw [if_pos c1, if_neg (by omega)]
  · rw [if_neg c1]
    by_cases c2 : B < 2 * (A % B)
    · rw [if_pos c2, if_pos (.inl c2)]; omega
    · rw [if_neg c2]
      by_cases c3 : A / B % 2 = 0
      · rw [if_pos (by omega), if_neg (by omega)]
      · rw [if_neg (by omega), if_pos (.inr ⟨by omega, by omega⟩)]; omega
theorem size_V (x : Float_) : Ew.Unit.size (Ew.Unit.V x) = ((x.frac : Nat) : Rat) * two (Format.extended.k x) := by
  unfold Ew.Unit.size
  have hv := V_eq x
  by_cases z : x.frac = 0
  · have h0 : Ew.Unit.V x = 0 := (rat_zero hv).mpr (sm_zero.mpr z)
    rw [h0, z]
    simp
  · have hn := rat_neg hv
    rw [sm_neg (by omega)] at hn
    cases hs : x.sign
    · rw [hs] at hn hv
      rw [if_neg (of_decide_eq_false hn), hv]; rfl
    · rw [hs] at hn hv
      rw [if_pos (of_decide_eq_true hn), hv]
      have : sm true x.frac = -(x.frac : Int) := rfl
      rw [this, Rat.intCast_neg, Rat.neg_mul, Rat.neg_neg]; rfl
theorem size_at {x : Float_} {p : Int} (h : p ≤ Format.extended.k x) : Ew.Unit.size (Ew.Unit.V x) = ((x.frac * 2 ^ (Format.extended.k x - p).toNat : Nat) : Rat) * two p := by
  rw [size_V, two_shift h, ← Rat.mul_assoc, Rat.natCast_mul]
/-- what is left, with a's sign -/
theorem left_eq (s : Bool) {A B : Nat} (hB : 0 < B) (p : Int) : ((if s = true then -1 else 1) * (((A : Nat) : Rat) * two p - ((B : Nat) : Rat) * two p * (((A / B : Nat) : Int) : Rat)) : Rat) = ((sm s (A % B) : Int) : Rat) * two p := by
  have dm := Nat.div_add_mod A B
  have e : ((A : Nat) : Rat) = ((B : Nat) : Rat) * (((A / B : Nat) : Int) : Rat) + ((A % B : Nat) : Rat) := by
    rw [natR, natR, natR, ← Rat.intCast_mul, ← Rat.intCast_add]
    congr 1
    exact_mod_cast dm.symm
  have e2 : ((A : Nat) : Rat) * two p - ((B : Nat) : Rat) * two p * (((A / B : Nat) : Int) : Rat) = ((A % B : Nat) : Rat) * two p := by
    rw [e]
    generalize ((B : Nat) : Rat) = b
    generalize (((A / B : Nat) : Int) : Rat) = q
    grind
  rw [e2]
  cases s
  · simp [sm]; rfl
  · have : sm true (A % B) = -((A % B : Nat) : Int) := rfl
    rw [this, Rat.intCast_neg, ← natR, Rat.neg_mul]
    simp
    grind
theorem left_next (s : Bool) {A B : Nat} (hB : 0 < B) (p : Int) : ((if s = true then -1 else 1) * (((A : Nat) : Rat) * two p - ((B : Nat) : Rat) * two p * (((A / B + 1 : Nat) : Int) : Rat)) : Rat) = ((sm (!s) (B - A % B) : Int) : Rat) * two p := by
  have dm := Nat.div_add_mod A B
  have lt := Nat.mod_lt A hB
  have e : ((A : Nat) : Rat) = ((B : Nat) : Rat) * (((A / B + 1 : Nat) : Int) : Rat) - ((B - A % B : Nat) : Rat) := by
    rw [natR, natR, natR, ← Rat.intCast_mul, ← Rat.intCast_sub]
    congr 1
    have h1 : ((B - A % B : Nat) : Int) = (B : Int) - ((A % B : Nat) : Int) := by omega
    rw [h1]
    have h2 : (B : Int) * ((A / B + 1 : Nat) : Int) = ((B * (A / B) : Nat) : Int) + B := by
      have : B * (A / B + 1) = B * (A / B) + B := by rw [Nat.mul_add, Nat.mul_one]
      exact_mod_cast this
    rw [h2]
    omega
  have e2 : ((A : Nat) : Rat) * two p - ((B : Nat) : Rat) * two p * (((A / B + 1 : Nat) : Int) : Rat) = -(((B - A % B : Nat) : Rat) * two p) := by
    rw [e]
    generalize ((B : Nat) : Rat) = b
    generalize (((A / B + 1 : Nat) : Int) : Rat) = q
    grind
  rw [e2]
  cases s
  · have : sm (!false) (B - A % B) = -((B - A % B : Nat) : Int) := rfl
    rw [this, Rat.intCast_neg, ← natR, Rat.neg_mul]
    simp
  · have : sm (!true) (B - A % B) = ((B - A % B : Nat) : Int) := rfl
    rw [this, ← natR]
    simp
    grind
/-- an exact value brought to a float: 0 has the sign told -/
theorem ofRat_rest (r : Rounding) (z : Bool) {v : Rat} {s : Bool} {m : Nat} {p : Int} (h : v = ((sm s m : Int) : Rat) * two p) (hm : m < 2 ^ 64) (hp : -16445 ≤ p) (he : m = 0 ∨ (m.log2 : Int) + p ≤ 16383) (hz : m = 0 → z = s) : (Format.extended.ofRat 64 r z v).1 = Format.extended.make s m p := by
  by_cases hn : m = 0
  · have : v = 0 := (rat_zero h).mpr (sm_zero.mpr hn)
    rw [this, hz hn, hn]; rfl
  · have hl : m.log2 < 64 := by
      have := (Nat.pow_lt_pow_iff_right (a := 2) (by decide)).mp (Nat.lt_of_le_of_lt (log2_spec (m := m) (by omega)).1 hm)
      omega
    have := ofRat_exact .extended r z (q := 64) h (mt sm_zero.mp hn) (by rw [sm_abs]; omega) (by rw [sm_abs]; exact he.resolve_left hn) (fun q => by
      rw [sm_abs]
      unfold ex
      have : Format.extended.emin - (64 : Nat) + 1 ≤ p := by show (-16382 : Int) - 64 + 1 ≤ _; omega
      rw [decide_eq_true this]; rfl)
    rw [this, sm_abs, sm_neg (by omega)]
end MX

set_option Elab.async false
set_option linter.all false
set_option maxRecDepth 100000
namespace UX
open PySem PySem.Spec PyProof.Rows L2 DD MX
open Ew (Float_ Format Rounding)
theorem no2 {a b : Float_} : (Ew.Unit.noNumber [a, b] = none → (kd a).none_ = false ∧ (kd b).none_ = false) ∧ ((kd a).none_ = false ∧ (kd b).none_ = false → Ew.Unit.noNumber [a, b] = none) := by
  rw [noNumber_eq]
  simp only [List.any_cons, List.any_nil, Bool.or_false, List.filter_cons, List.filter_nil]
  cases kd a <;> cases kd b <;> simp [Ew.Kind.none_]
theorem neg_V {x : Float_} (h : 0 < x.frac) : (Ew.Unit.V x < 0) ↔ x.sign = true := by
  have hn := rat_neg (V_eq x)
  rw [sm_neg h] at hn
  cases hs : x.sign
  · rw [hs] at hn
    exact ⟨fun q => absurd q (of_decide_eq_false hn), fun q => by cases q⟩
  · rw [hs] at hn
    exact ⟨fun _ => rfl, fun _ => of_decide_eq_true hn⟩
theorem prem_fin (one : Bool) {a b : Float_} (fa : isFin a) (fb : isFin b) (pa : 0 < a.frac) (pb : 0 < b.frac) (hd : ((a.frac.log2 : Int) + Format.extended.k a) - ((b.frac.log2 : Int) + Format.extended.k b) < 64) :
    (Format.extended.ofRat 64 .nearest a.sign (Ew.Unit.remOf one (Ew.Unit.V a) (Ew.Unit.V b)).1).1 = (finR one a b).1 ∧ (Ew.Unit.remOf one (Ew.Unit.V a) (Ew.Unit.V b)).2 = ((finR one a b).2, true) := by
  have p1 : pMin a b ≤ Format.extended.k a := by unfold pMin; omega
  have p2 : pMin a b ≤ Format.extended.k b := by unfold pMin; omega
  have ka := k_eq a
  have kb := k_eq b
  have p3 : -16445 ≤ pMin a b := by unfold pMin; omega
  have sa := size_at p1
  have sb := size_at p2
  have hBpos : 0 < dvd b (pMin a b) := by unfold dvd; exact Nat.mul_pos pb (p2pos _)
  have lA := dvd_log pa p1
  have xa := fin_exp fa
  have rl := rest_lt (ma := a.frac) (mb := b.frac) (ka := Format.extended.k a) (kb := Format.extended.k b) pb fa.2.2 fb.2.2
  have rl1 : dvd a (pMin a b) % dvd b (pMin a b) < 2 ^ 64 := rl.1
  have rl2 : dvd b (pMin a b) ≤ 2 * (dvd a (pMin a b) % dvd b (pMin a b)) → dvd b (pMin a b) - dvd a (pMin a b) % dvd b (pMin a b) < 2 ^ 64 := rl.2
  have hmodle := Nat.mod_le (dvd a (pMin a b)) (dvd b (pMin a b))
  have hmodlt := Nat.mod_lt (dvd a (pMin a b)) hBpos
  have sa' : Ew.Unit.size (Ew.Unit.V a) = ((dvd a (pMin a b) : Nat) : Rat) * Ew.two (pMin a b) := sa
  have sb' : Ew.Unit.size (Ew.Unit.V b) = ((dvd b (pMin a b) : Nat) : Rat) * Ew.two (pMin a b) := sb
  unfold Ew.Unit.remOf
  rw [topOf_V pa, topOf_V pb]
  simp only [if_pos hd, neg_V pa, sa', sb', quot_scale hBpos, quot_cut hBpos, quot_near hBpos]
  unfold finR
  dsimp only
  have e1 := left_eq a.sign (A := dvd a (pMin a b)) hBpos (pMin a b)
  have e2 := left_next a.sign (A := dvd a (pMin a b)) hBpos (pMin a b)
  generalize dvd a (pMin a b) = A at *
  generalize dvd b (pMin a b) = B at *
  have plain : (Format.extended.ofRat 64 .nearest a.sign ((if a.sign = true then -1 else 1) * (((A : Nat) : Rat) * Ew.two (pMin a b) - ((B : Nat) : Rat) * Ew.two (pMin a b) * (((A / B : Nat) : Int) : Rat)))).1 = Format.extended.make a.sign (A % B) (pMin a b) := by
    rw [e1]
    refine ofRat_rest .nearest a.sign rfl rl1 p3 ?_ (fun _ => rfl)
    rcases rest_log hmodle with z | z
    · exact .inl z
    · exact .inr (by omega)
  cases one
  · have : nextQ false (A / B) (A % B) B = false := rfl
    rw [this]
    simp only [Bool.false_eq_true, if_false]
    exact ⟨plain, by rw [Int.toNat_natCast]⟩
  · simp only [if_true]
    by_cases c : B < 2 * (A % B) ∨ (2 * (A % B) = B ∧ A / B % 2 = 1)
    · have : nextQ true (A / B) (A % B) B = true := by show (true && decide _) = true; rw [decide_eq_true c]; rfl
      rw [this]
      simp only [if_pos c, if_true]
      refine ⟨?_, by rw [Int.toNat_natCast]⟩
      rw [e2]
      have hle : B - A % B ≤ A := by omega
      refine ofRat_rest .nearest a.sign rfl (rl2 (by omega)) p3 ?_ (fun z => by omega)
      rcases rest_log hle with z | z
      · exact .inl z
      · exact .inr (by omega)
    · have : nextQ true (A / B) (A % B) B = false := by show (true && decide _) = false; rw [decide_eq_false c]; rfl
      rw [this]
      simp only [if_neg c, Bool.false_eq_true, if_false]
      exact ⟨plain, by rw [Int.toNat_natCast]⟩
theorem prem_par (one : Bool) {a b : Float_} (fa : isFin a) (fb : isFin b) (pa : 0 < a.frac) (pb : 0 < b.frac) (hd : ¬ ((a.frac.log2 : Int) + Format.extended.k a) - ((b.frac.log2 : Int) + Format.extended.k b) < 64) :
    (Format.extended.ofRat 64 .nearest a.sign (Ew.Unit.remOf one (Ew.Unit.V a) (Ew.Unit.V b)).1).1 = parR a b (((a.frac.log2 : Int) + Format.extended.k a) - ((b.frac.log2 : Int) + Format.extended.k b)) ∧ (Ew.Unit.remOf one (Ew.Unit.V a) (Ew.Unit.V b)).2.2 = false := by
  have ka := k_eq a
  have kb := k_eq b
  have ea := fa.1
  have eb := fb.1
  unfold Ew.Unit.remOf
  rw [topOf_V pa, topOf_V pb]
  simp only [if_neg hd, neg_V pa]
  refine ⟨?_, trivial⟩
  unfold parR
  generalize hD : ((a.frac.log2 : Int) + Format.extended.k a) - ((b.frac.log2 : Int) + Format.extended.k b) = d at *
  have hsb : Ew.Unit.size (Ew.Unit.V b) * Ew.two (d - (32 + d % 32)) = ((b.frac : Nat) : Rat) * Ew.two (dpw b d) := by
    rw [size_V, Rat.mul_assoc, ← two_add]
    have e : Format.extended.k b + (d - (32 + d % 32)) = dpw b d := by unfold dpw; omega
    rw [e]
  have hdp : Format.extended.k b ≤ dpw b d := by unfold dpw; omega
  have rl := rest_lt2 (ma := a.frac) (mb := b.frac) (ka := Format.extended.k a) (kb := dpw b d) pb fa.2.2 fb.2.2
  generalize hp : min (Format.extended.k a) (dpw b d) = p at *
  have p1 : p ≤ Format.extended.k a := by omega
  have p2 : p ≤ dpw b d := by omega
  have p3 : -16445 ≤ p := by omega
  have sa : Ew.Unit.size (Ew.Unit.V a) = ((dvd a p : Nat) : Rat) * Ew.two p := size_at p1
  have sb : Ew.Unit.size (Ew.Unit.V b) * Ew.two (d - (32 + d % 32)) = ((b.frac * 2 ^ (dpw b d - p).toNat : Nat) : Rat) * Ew.two p := by
    rw [hsb, two_shift p2, ← Rat.mul_assoc, Rat.natCast_mul]
  have hBpos := Nat.mul_pos pb (p2pos (dpw b d - p).toNat)
  have comm : ∀ q : Rat, Ew.Unit.size (Ew.Unit.V b) * q * Ew.two (d - (32 + d % 32)) = Ew.Unit.size (Ew.Unit.V b) * Ew.two (d - (32 + d % 32)) * q := by
    intro q
    rw [Rat.mul_assoc, Rat.mul_assoc, Rat.mul_comm q]
  rw [comm, sb, sa, quot_scale hBpos, quot_cut hBpos]
  have lA := dvd_log pa p1
  have xa := fin_exp fa
  have rl1 : dvd a p % (b.frac * 2 ^ (dpw b d - p).toNat) < 2 ^ 64 := rl
  have hmodle := Nat.mod_le (dvd a p) (b.frac * 2 ^ (dpw b d - p).toNat)
  rw [left_eq a.sign hBpos p]
  refine ofRat_rest .nearest a.sign rfl rl1 p3 ?_ (fun _ => rfl)
  rcases rest_log hmodle with z | z
  · exact .inl z
  · exact .inr (by omega)
theorem prem_eq (one : Bool) {a b : Float_} (ha : OkE a) (hb : OkE b) (na : (kd a).none_ = false) (nb : (kd b).none_ = false) : Ew.Unit.prem one a b = (((remRaw one a b).1, if (remRaw one a b).2.2 = 1 then 1 else Ew.Unit.smallIn [a, b] + (remRaw one a b).2.2), (remRaw one a b).2.1) := by
  unfold Ew.Unit.prem remRaw
  rw [no2.2 ⟨na, nb⟩]
  simp only [i0, z0]
  by_cases c1 : kd a = .infinite ∨ kd b = .zero
  · simp only [if_pos c1]; rfl
  · simp only [if_neg c1]
    have ia : ¬ kd a = .infinite := fun z => c1 (.inl z)
    have zb : ¬ kd b = .zero := fun z => c1 (.inr z)
    have fa := fin_of ha ((fin_or na).resolve_left ia)
    by_cases c2 : kd b = .infinite ∨ kd a = .zero
    · simp only [if_pos c2]
      have := ofRat_fin .nearest fa
      have e : (Ew.Unit.E.ofRat 64 .nearest a.sign (Ew.Unit.V a)).1 = canon a := this
      rw [e]; rfl
    · simp only [if_neg c2]
      have ib : ¬ kd b = .infinite := fun z => c2 (.inl z)
      have za : ¬ kd a = .zero := fun z => c2 (.inr z)
      have fb := fin_of hb ((fin_or nb).resolve_left ib)
      have pa := fin_pos fa za
      have pb := fin_pos fb zb
      by_cases c3 : ((a.frac.log2 : Int) + Format.extended.k a) - ((b.frac.log2 : Int) + Format.extended.k b) < 64
      · simp only [if_pos c3]
        obtain ⟨h1, h2⟩ := prem_fin one fa fb pa pb c3
        have e : (Ew.Unit.E.ofRat 64 .nearest a.sign (Ew.Unit.remOf one (Ew.Unit.V a) (Ew.Unit.V b)).1).1 = (finR one a b).1 := h1
        rw [e, h2]; rfl
      · simp only [if_neg c3]
        obtain ⟨h1, h2⟩ := prem_par one fa fb pa pb c3
        have e : (Ew.Unit.E.ofRat 64 .nearest a.sign (Ew.Unit.remOf one (Ew.Unit.V a) (Ew.Unit.V b)).1).1 = parR a b (((a.frac.log2 : Int) + Format.extended.k a) - ((b.frac.log2 : Int) + Format.extended.k b)) := h1
        rw [e, h2]; rfl
end UX

set_option Elab.async false
set_option linter.all false
set_option maxRecDepth 100000
namespace UX
open PySem PySem.Spec PyProof.Rows L2 DD MX
open Ew (Float_ Format Rounding)
/-! ### two -/
def tnum : Wrxtbb.Two → Int
  | .add => 0
  | .sub => 1
  | .mul => 2
  | .div => 3
  | .prem => 4
  | .prem1 => 5
  | .scale => 6
  | .com => 7
  | .ucom => 8
def rem3 (one : Bool) (a b : Float_) : D := .lst [.int (code .extended (remRaw one a b).1 : Nat), .int ((remRaw one a b).2.1 : Nat), .int ((remRaw one a b).2.2 : Nat)]
def C_compared_quietly : DCt := fun ds P => ∃ a b : Float_, ds = [numD a, numD b] ∧ OkE a ∧ OkE b ∧ P (.lst [.int ((Ew.Unit.com true a b).1 : Nat), .int ((Ew.Unit.com true a b).2 : Nat)])
def C_result_of_two : DCt := fun ds P => ∃ (o : Wrxtbb.Two) (q : Nat) (r : Rounding) (a b : Float_), ds = [.int (tnum o), .int q, .int (rn r), numD a, numD b] ∧ OkE a ∧ OkE b ∧ (kd a).none_ = false ∧ (kd b).none_ = false ∧ 1 ≤ q ∧ q ≤ 64 ∧ (match o with
  | .add => P (rawT q r (Ew.Unit.addE r a b))
  | .sub => P (rawT q r (Ew.Unit.addE r a (Ew.Unit.flip b)))
  | .mul => P (rawT q r (Ew.Unit.mulE a b))
  | .div => P (rawT q r (Ew.Unit.divE a b))
  | .prem => P (rem3 false a b)
  | .prem1 => P (rem3 true a b)
  | .scale => P (rawT 64 r (Ew.Unit.scaleE a b))
  | _ => False)
def C_told_of_two : DCt := fun ds P => ∃ (o : Wrxtbb.Two) (q : Nat) (r : Rounding) (a b : Float_), ds = [.int (tnum o), .int q, .int (rn r), numD a, numD b] ∧ OkE a ∧ OkE b ∧ 1 ≤ q ∧ q ≤ 64 ∧ ∃ l : List Int, Wrxtbb.twoOf o q r a b = .nums l ∧ l.length ≤ 3 ∧ P (lst l)
def C_two : DCt := fun ds P => ∃ (o : Wrxtbb.Two) (q : Wrxtbb.Prec) (r : Rounding) (x y : Nat), ds = [.int (tnum o), .int (q.digits : Nat), .int (rn r), .int x, .int y] ∧ P (lst (PyWrxtbb.two (tnum o) (q.digits : Nat) (rn r) x y))
@[reducible] def T_compared_quietly : DS := (dSeq (dSet 2 (dCall (fun ds P => ds.length = 2 ∧ C_compared ds P) (dCons (dVar 0) (dCons (dVar 1) dNil))))
  (dSeq (dIfS (dAnd (dTest (dOp oEq (dOp oIx (dVar 2) (dC (.int 0))) (dC (.int 13)))) (dAnd (dTest (dOp (oIn true) (dC (.str "loud")) (dTup (dCons (dFld (dVar 0) "Number" "kind") (dCons (dFld (dVar 1) "Number" "kind") dNil))))) (dTest (dOp (oIn true) (dC (.str "odd")) (dTup (dCons (dFld (dVar 0) "Number" "kind") (dCons (dFld (dVar 1) "Number" "kind") dNil))))))) (dRet (dLst (dCons (dC (.int 13)) (dCons (dC (.int 0)) dNil)))) dNext)
  (dRet (dVar 2))))
@[reducible] def T_result_of_two : DS := (dSeq (dIfS (dTest (dOp oEq (dVar 0) (dC (.int 0)))) (dRet (dCall (fun ds P => ds.length = 4 ∧ C_added ds P) (dCons (dVar 3) (dCons (dVar 4) (dCons (dVar 1) (dCons (dVar 2) dNil)))))) dNext)
  (dSeq (dIfS (dTest (dOp oEq (dVar 0) (dC (.int 1)))) (dRet (dCall (fun ds P => ds.length = 4 ∧ C_subtracted ds P) (dCons (dVar 3) (dCons (dVar 4) (dCons (dVar 1) (dCons (dVar 2) dNil)))))) dNext)
  (dSeq (dIfS (dTest (dOp oEq (dVar 0) (dC (.int 2)))) (dRet (dCall (fun ds P => ds.length = 4 ∧ C_multiplied ds P) (dCons (dVar 3) (dCons (dVar 4) (dCons (dVar 1) (dCons (dVar 2) dNil)))))) dNext)
  (dSeq (dIfS (dTest (dOp oEq (dVar 0) (dC (.int 3)))) (dRet (dCall (fun ds P => ds.length = 4 ∧ C_divided ds P) (dCons (dVar 3) (dCons (dVar 4) (dCons (dVar 1) (dCons (dVar 2) dNil)))))) dNext)
  (dSeq (dIfS (dTest (dOp oEq (dVar 0) (dC (.int 6)))) (dRet (dCall (fun ds P => ds.length = 3 ∧ C_scaled ds P) (dCons (dVar 3) (dCons (dVar 4) (dCons (dVar 2) dNil))))) dNext)
  (dRet (dCall (fun ds P => ds.length = 3 ∧ C_remainder ds P) (dCons (dVar 3) (dCons (dVar 4) (dCons (dOp oEq (dVar 0) (dC (.int 5))) dNil))))))))))
@[reducible] def T_told_of_two : DS := (dSeq (dIfS (dTest (dOp oEq (dVar 0) (dC (.int 7)))) (dRet (dCall (fun ds P => ds.length = 2 ∧ C_compared ds P) (dCons (dVar 3) (dCons (dVar 4) dNil)))) dNext)
  (dSeq (dIfS (dTest (dOp oEq (dVar 0) (dC (.int 8)))) (dRet (dCall (fun ds P => ds.length = 2 ∧ C_compared_quietly ds P) (dCons (dVar 3) (dCons (dVar 4) dNil)))) dNext)
  (dSeq (dSet 5 (dCall (fun ds P => ds.length = 1 ∧ C_no_number_told ds P) (dCons (dLst (dCons (dVar 3) (dCons (dVar 4) dNil))) dNil)))
  (dSeq (dIfS (dTest (dOp oIsN (dVar 5) (dC (.non)))) (dRet (dCall (fun ds P => ds.length = 2 ∧ C_with_small_told ds P) (dCons (dCall (fun ds P => ds.length = 5 ∧ C_result_of_two ds P) (dCons (dVar 0) (dCons (dVar 1) (dCons (dVar 2) (dCons (dVar 3) (dCons (dVar 4) dNil)))))) (dCons (dLst (dCons (dVar 3) (dCons (dVar 4) dNil))) dNil)))) dNext)
  (dSeq (dIfS (dTest (dOp (oIn false) (dVar 0) (dTup (dCons (dC (.int 4)) (dCons (dC (.int 5)) dNil))))) (dRet (dLst (dCons (dOp oIx (dVar 5) (dC (.int 0))) (dCons (dC (.int 0)) (dCons (dOp oIx (dVar 5) (dC (.int 1))) dNil))))) dNext)
  (dRet (dVar 5)))))))
@[reducible] def T_two : DS := (dSeq (dIfS (dOr (dTruth (dCall (fun ds P => ds.length = 1 ∧ C_too_wide ds P) (dCons (dVar 3) dNil))) (dTruth (dCall (fun ds P => ds.length = 1 ∧ C_too_wide ds P) (dCons (dVar 4) dNil)))) (dRet (dLst (dCons (dC (.int (-1))) dNil))) dNext)
  (dRet (dOp oAdd (dLst (dCons (dC (.int 0)) dNil)) (dCall (fun ds P => ds.length = 5 ∧ C_told_of_two ds P) (dCons (dVar 0) (dCons (dVar 1) (dCons (dVar 2) (dCons (dCall (fun ds P => ds.length = 1 ∧ ds.all flatD = true ∧ C_Number_init ds fun gs => P (.obj "Number" gs)) (dCons (dVar 3) dNil)) (dCons (dCall (fun ds P => ds.length = 1 ∧ ds.all flatD = true ∧ C_Number_init ds fun gs => P (.obj "Number" gs)) (dCons (dVar 4) dNil)) dNil)))))))))
theorem in2_loud (a b : Ew.Kind) : inD (.str "loud") [.str (kindStr a), .str (kindStr b)] = (a == .loud || b == .loud) := by
  unfold inD
  simp only [List.any_cons, List.any_nil, kq_loud, Bool.or_false]
theorem in2_odd (a b : Ew.Kind) : inD (.str "odd") [.str (kindStr a), .str (kindStr b)] = (a == .odd || b == .odd) := by
  unfold inD
  simp only [List.any_cons, List.any_nil, kq_odd, Bool.or_false]
theorem com_true_none {a b : Float_} (h : (kd a).none_ = true ∨ (kd b).none_ = true) : Ew.Unit.com true a b = (13, if kd a ≠ .loud ∧ kd b ≠ .loud ∧ kd a ≠ .odd ∧ kd b ≠ .odd then 0 else 1) := by
  unfold Ew.Unit.com
  have ka : Ew.Unit.E.kind a = kd a := rfl
  have kb : Ew.Unit.E.kind b = kd b := rfl
  have e : Ew.compared Ew.Unit.E a Ew.Unit.E b = 3 := by
    unfold Ew.compared
    rw [ka, kb, if_pos h]
  rw [e]
  have ka : Ew.Unit.kind a = kd a := rfl
  have kb : Ew.Unit.kind b = kd b := rfl
  rw [ka, kb]
  simp only [if_true, true_and]
  rfl
theorem com_true_some {a b : Float_} (h : ¬ ((kd a).none_ = true ∨ (kd b).none_ = true)) : Ew.Unit.com true a b = Ew.Unit.com false a b ∧ (Ew.Unit.com false a b).1 ≠ 13 := by
  have na : (kd a).none_ = false := by
    cases e : (kd a).none_
    · rfl
    · exact absurd (.inl e) h
  have nb : (kd b).none_ = false := by
    cases e : (kd b).none_
    · rfl
    · exact absurd (.inr e) h
  unfold Ew.Unit.com
  have ne : Ew.compared Ew.Unit.E a Ew.Unit.E b ≠ 3 := by
    unfold Ew.compared
    have ka : Ew.Unit.E.kind a = kd a := rfl
    have kb : Ew.Unit.E.kind b = kd b := rfl
    rw [ka, kb, if_neg h]
    dsimp only
    repeat' split
    all_goals decide
  simp only [if_neg ne]
  refine ⟨trivial, ?_⟩
  split
  · decide
  · split <;> decide
theorem rd_compared_quietly : Rd T_compared_quietly 2 1 C_compared_quietly := by
  intro ds Pp hl h
  obtain ⟨a, b, rfl, ha, hb, hP⟩ := h
  simp only [C_compared, Bool.false_eq_true, if_false, if_true, in2_loud, in2_odd, dSeq, dSet, dRet, dIfS, dNext, dOp, dVar, dC, dCall, dCons, dNil, dTest, dTruth, dTru, dAnd, dOr, dNot, dNotV, dAndV, dOrV, dIf, dNeg, dLst, dTup, dFld, dBitLen, dSl, dNoPart, dPart, oI0, oI, oEq, oNe, oIsN, oIx, oIn, oAdd, oSub, oMul, oDiv, oMod, oShl, oShr, oAndB, oOrB, oXorB, oPow, oLt, oLe, oGt, oGe, cAbs, cMin, cMax, List.map_cons, List.map_nil, List.cons_append, List.nil_append, List.length_cons, List.length_nil, Nat.zero_add, Nat.reduceAdd, Nat.reduceSub, List.replicate_zero, List.replicate_succ, List.getElem?_cons_zero, List.getElem?_cons_succ, List.set_cons_zero, List.set_cons_succ, List.append_nil, fmD, numD, nk1, nk2, nk3, nk4, nk5, lk1, lk2, lk3, lk4, lk5, lk6, true_and, and_true, Nat.reduceLeDiff, decide_eq_true_eq]
  refine ⟨a, b, rfl, ha, hb, ?_⟩
  have e0 : atI [D.int ((Ew.Unit.com false a b).1 : Nat), D.int ((Ew.Unit.com false a b).2 : Nat)] 0 = some (D.int ((Ew.Unit.com false a b).1 : Nat)) := rfl
  simp only [e0]
  by_cases c : (kd a).none_ = true ∨ (kd b).none_ = true
  · rw [com_true_none c] at hP
    have cn := com_none c
    rw [cn]
    rw [if_pos (by decide)]
    refine ⟨rfl, rfl, ?_⟩
    by_cases c1 : (!(kd a == .loud || kd b == .loud)) = true
    · rw [if_pos c1]
      refine ⟨rfl, rfl, ?_⟩
      by_cases c2 : (!(kd a == .odd || kd b == .odd)) = true
      · rw [if_pos c2]
        rw [if_pos (by simp at c1 c2; exact ⟨c1.1, c1.2, c2.1, c2.2⟩)] at hP
        exact hP
      · rw [if_neg c2]
        rw [if_neg (by intro z; apply c2; simp [z.2.2.1, z.2.2.2])] at hP
        exact hP
    · rw [if_neg c1]
      rw [if_neg (by intro z; apply c1; simp [z.1, z.2.1])] at hP
      exact hP
  · obtain ⟨h1, h2⟩ := com_true_some c
    rw [h1] at hP
    rw [if_neg (by omega)]
    exact hP
theorem rd_result_of_two : Rd T_result_of_two 5 0 C_result_of_two := by
  intro ds Pp hl h
  obtain ⟨o, q, r, a, b, rfl, ha, hb, na, nb, h1, h2, hP⟩ := h
  cases o
  · exact ⟨rfl, q, r, a, b, rfl, ha, hb, na, nb, h1, h2, hP⟩
  · exact ⟨rfl, q, r, a, b, rfl, ha, hb, na, nb, h1, h2, hP⟩
  · exact ⟨rfl, q, r, a, b, rfl, ha, hb, na, nb, h1, h2, hP⟩
  · exact ⟨rfl, q, r, a, b, rfl, ha, hb, na, nb, h1, h2, hP⟩
  · exact ⟨rfl, false, a, b, rfl, ha, hb, na, nb, hP⟩
  · exact ⟨rfl, true, a, b, rfl, ha, hb, na, nb, hP⟩
  · exact ⟨rfl, r, a, b, rfl, ha, hb, na, nb, hP⟩
  · exact hP.elim
  · exact hP.elim
theorem two_none {a b : Float_} {q : Nat} {r : Rounding} {e : Ew.Unit.Exact} {Pp : D → Prop} (hno : Ew.Unit.noNumber [a, b] = none) (hP : Pp (tld .extended (Ew.Unit.done q r [a, b] e))) : C_with_small_told [rawT q r e, .lst (nums [a, b])] Pp := by
  have ed : Ew.Unit.done q r [a, b] e = Ew.Unit.told q r (Ew.Unit.smallIn [a, b]) e := by unfold Ew.Unit.done; rw [hno]
  rw [ed] at hP
  exact small_told (t := Ew.Unit.told q r 0 e) (l := [a, b]) (by show 2 ≤ 2; decide) (told_mod q r _ _ (fun v z _ => ofRat_mod ..) fun v _ => rounded_mod ..) hP
theorem two_some {a b : Float_} {q : Nat} {r : Rounding} {e : Ew.Unit.Exact} {t : Float_ × Nat} (hno : Ew.Unit.noNumber [a, b] = some t) : Ew.Unit.done q r [a, b] e = t := by unfold Ew.Unit.done; rw [hno]
theorem rem_fl (one : Bool) (a b : Float_) : (remRaw one a b).2.2 = 1 ∨ (remRaw one a b).2.2 = 0 := by
  unfold remRaw
  split
  · exact .inl rfl
  · split
    · exact .inr rfl
    · split <;> exact .inr rfl
theorem two_rem {a b : Float_} (ha : OkE a) (hb : OkE b) (one : Bool) {Pp : D → Prop} (hno : Ew.Unit.noNumber [a, b] = none) (hP : Pp (lst [Wrxtbb.num (Ew.Unit.prem one a b).1.1, Wrxtbb.n (Ew.Unit.prem one a b).2, Wrxtbb.n (Ew.Unit.prem one a b).1.2])) : C_with_small_told [rem3 one a b, .lst (nums [a, b])] Pp := by
  obtain ⟨na, nb⟩ := no2.1 hno
  rw [prem_eq one ha hb na nb] at hP
  refine ⟨[.int (code .extended (remRaw one a b).1 : Nat), .int ((remRaw one a b).2.1 : Nat)], (remRaw one a b).2.2, [a, b], rfl, .inr rfl, by show 2 ≤ 2; decide, ?_⟩
  rcases rem_fl one a b with z | z
  · left
    rw [if_pos z] at hP
    rw [z]
    exact ⟨.inl rfl, hP⟩
  · right
    rw [if_neg (by omega)] at hP
    exact ⟨by rw [z], hP⟩
theorem tn_ne (o : Wrxtbb.Two) : (tnum o = 7 ↔ o = .com) ∧ (tnum o = 8 ↔ o = .ucom) := by cases o <;> decide
theorem in45 (o : Wrxtbb.Two) : inD (.int (tnum o)) [.int 4, .int 5] = decide (o = .prem ∨ o = .prem1) := by cases o <;> decide
theorem rd_told_of_two : Rd T_told_of_two 5 1 C_told_of_two := by
  intro ds Pp hl h
  obtain ⟨o, q, r, a, b, rfl, ha, hb, h1, h2, l, hl2, hl3, hP⟩ := h
  simp only [C_compared, C_compared_quietly, C_no_number_told, C_result_of_two, Bool.false_eq_true, if_false, if_true, (tn_ne o).1, (tn_ne o).2, in45, dSeq, dSet, dRet, dIfS, dNext, dOp, dVar, dC, dCall, dCons, dNil, dTest, dTruth, dTru, dAnd, dOr, dNot, dNotV, dAndV, dOrV, dIf, dNeg, dLst, dTup, dFld, dBitLen, dSl, dNoPart, dPart, oI0, oI, oEq, oNe, oIsN, oIx, oIn, oAdd, oSub, oMul, oDiv, oMod, oShl, oShr, oAndB, oOrB, oXorB, oPow, oLt, oLe, oGt, oGe, cAbs, cMin, cMax, List.map_cons, List.map_nil, List.cons_append, List.nil_append, List.length_cons, List.length_nil, Nat.zero_add, Nat.reduceAdd, Nat.reduceSub, List.replicate_zero, List.replicate_succ, List.getElem?_cons_zero, List.getElem?_cons_succ, List.set_cons_zero, List.set_cons_succ, List.append_nil, fmD, numD, nk1, nk2, nk3, nk4, nk5, lk1, lk2, lk3, lk4, lk5, lk6, true_and, and_true, Nat.reduceLeDiff, decide_eq_true_eq]
  by_cases c7 : o = .com
  · subst c7
    rw [if_pos rfl]
    have e : Wrxtbb.twoOf .com q r a b = .nums [Wrxtbb.n (Ew.Unit.com false a b).1, Wrxtbb.n (Ew.Unit.com false a b).2] := rfl
    rw [e] at hl2
    cases hl2
    exact ⟨a, b, rfl, ha, hb, hP⟩
  · rw [if_neg c7]
    by_cases c8 : o = .ucom
    · subst c8
      rw [if_pos rfl]
      have e : Wrxtbb.twoOf .ucom q r a b = .nums [Wrxtbb.n (Ew.Unit.com true a b).1, Wrxtbb.n (Ew.Unit.com true a b).2] := rfl
      rw [e] at hl2
      cases hl2
      exact ⟨a, b, rfl, ha, hb, hP⟩
    · rw [if_neg c8]
      refine ⟨[a, b], rfl, by show 2 ≤ 2; decide, fun y hy => ?_, ?_⟩
      · rcases List.mem_cons.mp hy with z | z
        · rw [z]; exact ha
        · rw [List.mem_singleton.mp z]; exact hb
      cases hno : Ew.Unit.noNumber [a, b] with
      | none =>
        obtain ⟨na, nb⟩ := no2.1 hno
        cases o
        · cases (show Wrxtbb.Answer.nums l = Wrxtbb.gives (Ew.Unit.done q r [a, b] (Ew.Unit.addE r a b)) from hl2.symm)
          exact ⟨.add, q, r, a, b, rfl, ha, hb, na, nb, h1, h2, two_none hno hP⟩
        · cases (show Wrxtbb.Answer.nums l = Wrxtbb.gives (Ew.Unit.done q r [a, b] (Ew.Unit.addE r a (Ew.Unit.flip b))) from hl2.symm)
          exact ⟨.sub, q, r, a, b, rfl, ha, hb, na, nb, h1, h2, two_none hno hP⟩
        · cases (show Wrxtbb.Answer.nums l = Wrxtbb.gives (Ew.Unit.done q r [a, b] (Ew.Unit.mulE a b)) from hl2.symm)
          exact ⟨.mul, q, r, a, b, rfl, ha, hb, na, nb, h1, h2, two_none hno hP⟩
        · cases (show Wrxtbb.Answer.nums l = Wrxtbb.gives (Ew.Unit.done q r [a, b] (Ew.Unit.divE a b)) from hl2.symm)
          exact ⟨.div, q, r, a, b, rfl, ha, hb, na, nb, h1, h2, two_none hno hP⟩
        · cases (show Wrxtbb.Answer.nums l = .nums [Wrxtbb.num (Ew.Unit.prem false a b).1.1, Wrxtbb.n (Ew.Unit.prem false a b).2, Wrxtbb.n (Ew.Unit.prem false a b).1.2] from hl2.symm)
          exact ⟨.prem, q, r, a, b, rfl, ha, hb, na, nb, h1, h2, two_rem ha hb false hno hP⟩
        · cases (show Wrxtbb.Answer.nums l = .nums [Wrxtbb.num (Ew.Unit.prem true a b).1.1, Wrxtbb.n (Ew.Unit.prem true a b).2, Wrxtbb.n (Ew.Unit.prem true a b).1.2] from hl2.symm)
          exact ⟨.prem1, q, r, a, b, rfl, ha, hb, na, nb, h1, h2, two_rem ha hb true hno hP⟩
        · cases (show Wrxtbb.Answer.nums l = Wrxtbb.gives (Ew.Unit.done 64 r [a, b] (Ew.Unit.scaleE a b)) from hl2.symm)
          exact ⟨.scale, q, r, a, b, rfl, ha, hb, na, nb, h1, h2, two_none hno hP⟩
        · exact absurd rfl c7
        · exact absurd rfl c8
      | some t =>
        have e0 : atI [D.int (code .extended t.1 : Nat), D.int (t.2 : Nat)] 0 = some (D.int (code .extended t.1 : Nat)) := rfl
        have e1 : atI [D.int (code .extended t.1 : Nat), D.int (t.2 : Nat)] 1 = some (D.int (t.2 : Nat)) := rfl
        simp only [e0, e1]
        refine ⟨rfl, rfl, ?_⟩
        cases o
        · rw [if_neg (by decide)]
          cases (show Wrxtbb.Answer.nums l = Wrxtbb.gives (Ew.Unit.done q r [a, b] (Ew.Unit.addE r a b)) from hl2.symm)
          rw [two_some hno] at hP; exact hP
        · rw [if_neg (by decide)]
          cases (show Wrxtbb.Answer.nums l = Wrxtbb.gives (Ew.Unit.done q r [a, b] (Ew.Unit.addE r a (Ew.Unit.flip b))) from hl2.symm)
          rw [two_some hno] at hP; exact hP
        · rw [if_neg (by decide)]
          cases (show Wrxtbb.Answer.nums l = Wrxtbb.gives (Ew.Unit.done q r [a, b] (Ew.Unit.mulE a b)) from hl2.symm)
          rw [two_some hno] at hP; exact hP
        · rw [if_neg (by decide)]
          cases (show Wrxtbb.Answer.nums l = Wrxtbb.gives (Ew.Unit.done q r [a, b] (Ew.Unit.divE a b)) from hl2.symm)
          rw [two_some hno] at hP; exact hP
        · rw [if_pos (.inl rfl)]
          cases (show Wrxtbb.Answer.nums l = .nums [Wrxtbb.num (Ew.Unit.prem false a b).1.1, Wrxtbb.n (Ew.Unit.prem false a b).2, Wrxtbb.n (Ew.Unit.prem false a b).1.2] from hl2.symm)
          have ep : Ew.Unit.prem false a b = (t, 0) := by unfold Ew.Unit.prem; rw [hno]
          rw [ep] at hP; exact hP
        · rw [if_pos (.inr rfl)]
          cases (show Wrxtbb.Answer.nums l = .nums [Wrxtbb.num (Ew.Unit.prem true a b).1.1, Wrxtbb.n (Ew.Unit.prem true a b).2, Wrxtbb.n (Ew.Unit.prem true a b).1.2] from hl2.symm)
          have ep : Ew.Unit.prem true a b = (t, 0) := by unfold Ew.Unit.prem; rw [hno]
          rw [ep] at hP; exact hP
        · rw [if_neg (by decide)]
          cases (show Wrxtbb.Answer.nums l = Wrxtbb.gives (Ew.Unit.done 64 r [a, b] (Ew.Unit.scaleE a b)) from hl2.symm)
          rw [two_some hno] at hP; exact hP
        · exact absurd rfl c7
        · exact absurd rfl c8
theorem two_num (o : Wrxtbb.Two) : WrxtbbNeutral.two? (tnum o) = some o := by cases o <;> rfl
theorem twoOf_nums (o : Wrxtbb.Two) (q : Nat) (r : Rounding) (a b : Float_) : ∃ l, Wrxtbb.twoOf o q r a b = .nums l ∧ l.length ≤ 3 := by
  cases o <;> exact ⟨_, rfl, by simp⟩
theorem PyTwo_eq (o : Wrxtbb.Two) (q : Wrxtbb.Prec) (r : Rounding) (x y : Nat) : PyWrxtbb.two (tnum o) (q.digits : Nat) (rn r) x y = if 2 ^ 80 ≤ x ∨ 2 ^ 80 ≤ y then [-1] else WrxtbbNeutral.told (Wrxtbb.twoOf o q.digits r (xOf x) (xOf y)) := by
  have e : WrxtbbNeutral.callOf [[1, tnum o, (q.digits : Nat), rn r, (x : Int), (y : Int)]] = some (.two o q r x y) := by
    show ((WrxtbbNeutral.two? (tnum o)).bind fun o => (WrxtbbNeutral.prec? (q.digits : Nat)).bind fun q => (WrxtbbNeutral.rnd? (rn r)).bind fun r => (WrxtbbNeutral.nat? (x : Int)).bind fun a => (WrxtbbNeutral.nat? (y : Int)).map fun b => Wrxtbb.Call.two o q r a b) = _
    rw [two_num, prec_num, rnd_rn, nat_nat, nat_nat]; rfl
  show WrxtbbNeutral.f [[1, tnum o, (q.digits : Nat), rn r, (x : Int), (y : Int)]] = _
  unfold WrxtbbNeutral.f
  rw [e]
  show WrxtbbNeutral.told (Wrxtbb.with1 x fun a => Wrxtbb.with1 y fun b => Wrxtbb.twoOf o q.digits r a b) = _
  unfold Wrxtbb.with1
  rw [floatOf_eq, floatOf_eq]
  by_cases c : 2 ^ 80 ≤ x
  · have h : 2 ^ 80 ≤ x ∨ 2 ^ 80 ≤ y := .inl c
    rw [if_pos h, if_pos c]; rfl
  · by_cases c2 : 2 ^ 80 ≤ y
    · have h : 2 ^ 80 ≤ x ∨ 2 ^ 80 ≤ y := .inr c2
      rw [if_pos h, if_neg c, if_pos c2]; rfl
    · have h : ¬ (2 ^ 80 ≤ x ∨ 2 ^ 80 ≤ y) := fun z => z.elim c c2
      rw [if_neg h, if_neg c, if_neg c2]
theorem rd_two : Rd T_two 5 0 C_two := by
  intro ds Pp hl h
  obtain ⟨o, q, r, x, y, rfl, hP⟩ := h
  rw [PyTwo_eq o q r x y] at hP
  obtain ⟨l, hl2, hl3⟩ := twoOf_nums o q.digits r (xOf x) (xOf y)
  simp only [C_too_wide, C_Number_init, C_told_of_two, dSeq, dSet, dRet, dIfS, dNext, dOp, dVar, dC, dCall, dCons, dNil, dTest, dTruth, dTru, dAnd, dOr, dNot, dNotV, dAndV, dOrV, dIf, dNeg, dLst, dTup, dFld, dBitLen, dSl, dNoPart, dPart, oI0, oI, oEq, oNe, oIsN, oIx, oIn, oAdd, oSub, oMul, oDiv, oMod, oShl, oShr, oAndB, oOrB, oXorB, oPow, oLt, oLe, oGt, oGe, cAbs, cMin, cMax, List.map_cons, List.map_nil, List.cons_append, List.nil_append, List.length_cons, List.length_nil, Nat.zero_add, Nat.reduceAdd, Nat.reduceSub, List.replicate_zero, List.replicate_succ, List.getElem?_cons_zero, List.getElem?_cons_succ, List.set_cons_zero, List.set_cons_succ, List.append_nil, fmD, numD, nk1, nk2, nk3, nk4, nk5, lk1, lk2, lk3, lk4, lk5, lk6, true_and, and_true, Nat.reduceLeDiff, decide_eq_true_eq]
  refine ⟨x, rfl, ?_⟩
  by_cases c : 2 ^ 80 ≤ x
  · rw [if_pos (.inl c)] at hP
    rw [if_pos c, if_pos trivial]; exact hP
  · rw [if_neg c]
    refine ⟨y, rfl, ?_⟩
    by_cases c2 : 2 ^ 80 ≤ y
    · rw [if_pos (.inr c2)] at hP
      rw [if_pos c2]; exact hP
    · rw [if_neg (fun z => z.elim c c2), hl2] at hP
      rw [if_neg c2]
      refine ⟨rfl, xOf x, xOf_ok x, by rw [code_xOf c], rfl, xOf y, xOf_ok y, by rw [code_xOf c2], o, q.digits, r, xOf x, xOf y, rfl, xOf_ok x, xOf_ok y, (prec_le q).1, (prec_le q).2, l, hl2, hl3, ?_, hP⟩
      simp only [List.length_map, List.length_cons, List.length_nil]
      omega
theorem two_of {z : Int} (h0 : 0 ≤ z) (h1 : z ≤ 8) : ∃ o : Wrxtbb.Two, z = tnum o := by
  have : z = 0 ∨ z = 1 ∨ z = 2 ∨ z = 3 ∨ z = 4 ∨ z = 5 ∨ z = 6 ∨ z = 7 ∨ z = 8 := by omega
  rcases this with rfl | rfl | rfl | rfl | rfl | rfl | rfl | rfl | rfl
  · exact ⟨.add, rfl⟩
  · exact ⟨.sub, rfl⟩
  · exact ⟨.mul, rfl⟩
  · exact ⟨.div, rfl⟩
  · exact ⟨.prem, rfl⟩
  · exact ⟨.prem1, rfl⟩
  · exact ⟨.scale, rfl⟩
  · exact ⟨.com, rfl⟩
  · exact ⟨.ucom, rfl⟩
theorem two_asked_q {o q r a b : Int} (h : PyWrxtbb.two_asked o q r a b = true) : ∃ p : Wrxtbb.Prec, q = ((p.digits : Nat) : Int) := by
  have e : PyWrxtbb.two_asked o q r a b = (((WrxtbbNeutral.among o 0 8 && ((q == 24 || (q == 53 || q == 64)) && (WrxtbbNeutral.among r 0 3 && (WrxtbbNeutral.from0 a && WrxtbbNeutral.from0 b)))) && true) && true) := rfl
  rw [e] at h
  simp only [Bool.and_eq_true, Bool.or_eq_true, beq_iff_eq] at h
  exact prec_of h.1.1.2.1
end UX

set_option Elab.async false
set_option linter.all false
set_option maxRecDepth 100000
set_option maxHeartbeats 4000000
theorem PySem.W.Fast.tw17737427412886841296 : True := trivial
theorem PySem.W.Fast.tw5438383311932573066 : True := trivial
theorem PySem.W.Fast.tw17517568582839166770 : True := trivial
theorem PySem.W.Fast.tw14095722494694881640 : True := trivial
theorem PySem.W.Fast.tw1724723179742009287 : True := trivial
theorem PySem.W.Fast.tw10153474131741530023 : True := trivial
theorem PySem.W.Fast.tw1848686300341672461 : True := trivial
theorem PySem.W.Fast.tw11147336835798570713 : True := trivial
theorem PySem.W.Fast.tw4728083467105427308 : True := trivial
theorem PySem.W.Fast.tw10464629380377664214 : True := trivial
theorem PySem.W.Fast.tw17253606184114254558 : True := trivial
theorem PySem.W.Fast.tw3739042143240796379 : True := trivial
theorem PySem.W.Fast.tw2470932036256985805 : True := trivial
theorem PySem.W.Fast.tw10575145628696931731 : True := trivial
theorem PySem.W.Fast.tw5472266270585389241 : True := trivial
theorem PySem.W.Fast.tw8947076317075281148 : True := trivial
theorem PySem.W.Fast.tw16699747914058845349 : True := trivial
theorem PySem.W.Fast.tw5501475878862712370 : True := trivial
theorem PySem.W.Fast.tw2803596241351201256 : True := trivial
theorem PySem.W.Fast.tw4010401852215864969 : True := trivial
namespace W_s01_two
open PySem PySem.Spec PyProof.Rows L2 DD UX
def top (i : Nat) : Stmt := PySem.Challenge.pw_wideunit_s01_two.main.body.getD i (.Pass ⟨0, 0, 0, 0⟩)
structure Glo (K : Frag) (mg : Str → Option Value) (cl : ClM) : Prop where
  g_HIGHEST_SIGNIFICAND_BIT : GlK K cl mg "HIGHEST_SIGNIFICAND_BIT" (.int 9223372036854775808)
  g_ZERO : GlK K cl mg "ZERO" (.str "zero")
  g_NEARLY_SMALL : GlK K cl mg "NEARLY_SMALL" (.str "nearly small")
  g_SMALL : GlK K cl mg "SMALL" (.str "small")
  g_ODD : GlK K cl mg "ODD" (.str "odd")
  g_ALL_EXPONENT_BITS : GlK K cl mg "ALL_EXPONENT_BITS" (.int 32767)
  g_NORMAL : GlK K cl mg "NORMAL" (.str "normal")
  g_INFINITE : GlK K cl mg "INFINITE" (.str "infinite")
  g_QUIET_BIT : GlK K cl mg "QUIET_BIT" (.int 4611686018427387904)
  g_QUIET : GlK K cl mg "QUIET" (.str "quiet")
  g_LOUD : GlK K cl mg "LOUD" (.str "loud")
  g_SIGN_PLACE : GlK K cl mg "SIGN_PLACE" (.int 79)
  g_NEAR : GlK K cl mg "NEAR" (.int 0)
  g_DOWN : GlK K cl mg "DOWN" (.int 1)
  g_UPWARD : GlK K cl mg "UPWARD" (.int 2)
  g_INEXACT : GlK K cl mg "INEXACT" (.int 32)
  g_UP : GlK K cl mg "UP" (.int 128)
  g_CUT : GlK K cl mg "CUT" (.int 3)
  g_OVERFLOW : GlK K cl mg "OVERFLOW" (.int 8)
  g_UNDERFLOW : GlK K cl mg "UNDERFLOW" (.int 16)
  g_INVALID : GlK K cl mg "INVALID" (.int 1)
  g_EMPTY : GlK K cl mg "EMPTY" (.int 1208921207928610747318272)
  g_DIGITS : GlK K cl mg "DIGITS" (.int 64)
  g_ALL_SIGNIFICAND_BITS : GlK K cl mg "ALL_SIGNIFICAND_BITS" (.int 18446744073709551615)
  g_LEAST_EXPONENT : GlK K cl mg "LEAST_EXPONENT" (.int (-16382))
  g_DIVIDED_BY_ZERO : GlK K cl mg "DIVIDED_BY_ZERO" (.int 4)
  g_EXTRA_PLACES : GlK K cl mg "EXTRA_PLACES" (.int 136)
  g_SMALL_IN : GlK K cl mg "SMALL_IN" (.int 2)
  g_EQUAL : GlK K cl mg "EQUAL" (.int 8)
  g_ABOVE : GlK K cl mg "ABOVE" (.int 0)
  g_BELOW : GlK K cl mg "BELOW" (.int 1)
  g_NOT_ORDERED : GlK K cl mg "NOT_ORDERED" (.int 13)
  g_FAR : GlK K cl mg "FAR" (.int 40000)
  g_UNFINISHED : GlK K cl mg "UNFINISHED" (.int 4)
  g_ADD : GlK K cl mg "ADD" (.int 0)
  g_SUB : GlK K cl mg "SUB" (.int 1)
  g_MUL : GlK K cl mg "MUL" (.int 2)
  g_DIV : GlK K cl mg "DIV" (.int 3)
  g_SCALE : GlK K cl mg "SCALE" (.int 6)
  g_PREM1 : GlK K cl mg "PREM1" (.int 5)
  g_COM : GlK K cl mg "COM" (.int 7)
  g_UCOM : GlK K cl mg "UCOM" (.int 8)
  g_PREM : GlK K cl mg "PREM" (.int 4)
  g_BEYOND : GlK K cl mg "BEYOND" (.int (-1))
  b_max : mg "max" = none
  b_min : mg "min" = none
  b_abs : mg "abs" = none
  b_any : mg "any" = none
  cls_Format : Cls K (cl "Format")
  cls_Number : Cls K (cl "Number")
  na_all_exponent_bits : NoAttr K (cl "Format") "all_exponent_bits"
  na_sign_place : NoAttr K (cl "Format") "sign_place"
  na_significand_places : NoAttr K (cl "Format") "significand_places"
  na_least_exponent : NoAttr K (cl "Format") "least_exponent"
  na_greatest_exponent : NoAttr K (cl "Format") "greatest_exponent"
  na_digits : NoAttr K (cl "Format") "digits"
  na_kind : NoAttr K (cl "Number") "kind"
  na_significand : NoAttr K (cl "Number") "significand"
  na_power : NoAttr K (cl "Number") "power"
  na_bits : NoAttr K (cl "Number") "bits"
  na_sign : NoAttr K (cl "Number") "sign"
abbrev st_Format_init : Stmt := inClass (top 12) 0
theorem sc_Format_init : FnScope ["self", "digits", "greatest_exponent", "significand_places"] ["self", "digits", "greatest_exponent", "significand_places"] (defScope st_Format_init) := ⟨rfl, rfl, rfl, by decide +kernel, rfl, by decide +kernel, by decide +kernel⟩
abbrev st_extended_format : Stmt := top 13
theorem sc_extended_format : FnScope [] [] (defScope st_extended_format) := ⟨rfl, rfl, rfl, by decide +kernel, rfl, by decide +kernel, by decide +kernel⟩
abbrev st_too_many_bits : Stmt := top 14
theorem sc_too_many_bits : FnScope ["form", "bits"] ["form", "bits"] (defScope st_too_many_bits) := ⟨rfl, rfl, rfl, by decide +kernel, rfl, by decide +kernel, by decide +kernel⟩
abbrev st_shown_bits : Stmt := top 15
theorem sc_shown_bits : FnScope ["form", "whole"] ["form", "whole"] (defScope st_shown_bits) := ⟨rfl, rfl, rfl, by decide +kernel, rfl, by decide +kernel, by decide +kernel⟩
abbrev st_joined : Stmt := top 16
theorem sc_joined : FnScope ["form", "sign", "exponent_bits", "significand", "high"] ["form", "sign", "exponent_bits", "significand"] (defScope st_joined) := ⟨rfl, rfl, rfl, by decide +kernel, rfl, by decide +kernel, by decide +kernel⟩
abbrev st_shifted : Stmt := top 19
theorem sc_shifted : FnScope ["whole", "places"] ["whole", "places"] (defScope st_shifted) := ⟨rfl, rfl, rfl, by decide +kernel, rfl, by decide +kernel, by decide +kernel⟩
abbrev st_value_bits : Stmt := top 17
theorem sc_value_bits : FnScope ["form", "sign", "size", "power", "exponent", "exponent_bits", "last_power"] ["form", "sign", "size", "power"] (defScope st_value_bits) := ⟨rfl, rfl, rfl, by decide +kernel, rfl, by decide +kernel, by decide +kernel⟩
abbrev st_endless_bits : Stmt := top 18
theorem sc_endless_bits : FnScope ["form", "sign"] ["form", "sign"] (defScope st_endless_bits) := ⟨rfl, rfl, rfl, by decide +kernel, rfl, by decide +kernel, by decide +kernel⟩
abbrev st_kind_of : Stmt := top 38
theorem sc_kind_of : FnScope ["exponent_bits", "significand", "high"] ["exponent_bits", "significand"] (defScope st_kind_of) := ⟨rfl, rfl, rfl, by decide +kernel, rfl, by decide +kernel, by decide +kernel⟩
abbrev st_is_small : Stmt := top 39
theorem sc_is_small : FnScope ["number"] ["number"] (defScope st_is_small) := ⟨rfl, rfl, rfl, by decide +kernel, rfl, by decide +kernel, by decide +kernel⟩
abbrev st_is_no_number : Stmt := top 40
theorem sc_is_no_number : FnScope ["number"] ["number"] (defScope st_is_no_number) := ⟨rfl, rfl, rfl, by decide +kernel, rfl, by decide +kernel, by decide +kernel⟩
abbrev st_exponent_of : Stmt := top 41
theorem sc_exponent_of : FnScope ["number"] ["number"] (defScope st_exponent_of) := ⟨rfl, rfl, rfl, by decide +kernel, rfl, by decide +kernel, by decide +kernel⟩
abbrev st_turned : Stmt := top 42
theorem sc_turned : FnScope ["bits"] ["bits"] (defScope st_turned) := ⟨rfl, rfl, rfl, by decide +kernel, rfl, by decide +kernel, by decide +kernel⟩
abbrev st_without_sign : Stmt := top 43
theorem sc_without_sign : FnScope ["bits"] ["bits"] (defScope st_without_sign) := ⟨rfl, rfl, rfl, by decide +kernel, rfl, by decide +kernel, by decide +kernel⟩
abbrev st_zero_bits : Stmt := top 44
theorem sc_zero_bits : FnScope ["sign"] ["sign"] (defScope st_zero_bits) := ⟨rfl, rfl, rfl, by decide +kernel, rfl, by decide +kernel, by decide +kernel⟩
abbrev st_infinite_bits : Stmt := top 45
theorem sc_infinite_bits : FnScope ["sign"] ["sign"] (defScope st_infinite_bits) := ⟨rfl, rfl, rfl, by decide +kernel, rfl, by decide +kernel, by decide +kernel⟩
abbrev st_finite_bits : Stmt := top 46
theorem sc_finite_bits : FnScope ["sign", "size", "power"] ["sign", "size", "power"] (defScope st_finite_bits) := ⟨rfl, rfl, rfl, by decide +kernel, rfl, by decide +kernel, by decide +kernel⟩
abbrev st_bits_by_value : Stmt := top 47
theorem sc_bits_by_value : FnScope ["number"] ["number"] (defScope st_bits_by_value) := ⟨rfl, rfl, rfl, by decide +kernel, rfl, by decide +kernel, by decide +kernel⟩
abbrev st_rounds_away : Stmt := top 49
theorem sc_rounds_away : FnScope ["sign", "whole", "rest", "half", "r"] ["sign", "whole", "rest", "half", "r"] (defScope st_rounds_away) := ⟨rfl, rfl, rfl, by decide +kernel, rfl, by decide +kernel, by decide +kernel⟩
abbrev st_rounded_multiple : Stmt := top 50
theorem sc_rounded_multiple : FnScope ["sign", "size", "power", "unit", "r", "places", "whole", "rest"] ["sign", "size", "power", "unit", "r"] (defScope st_rounded_multiple) := ⟨rfl, rfl, rfl, by decide +kernel, rfl, by decide +kernel, by decide +kernel⟩
abbrev st_flags_of_loss : Stmt := top 51
theorem sc_flags_of_loss : FnScope ["multiple", "unit", "size", "power", "places", "came"] ["multiple", "unit", "size", "power"] (defScope st_flags_of_loss) := ⟨rfl, rfl, rfl, by decide +kernel, rfl, by decide +kernel, by decide +kernel⟩
abbrev st_overflowed : Stmt := top 55
theorem sc_overflowed : FnScope ["form", "sign", "q", "r", "greatest"] ["form", "sign", "q", "r"] (defScope st_overflowed) := ⟨rfl, rfl, rfl, by decide +kernel, rfl, by decide +kernel, by decide +kernel⟩
abbrev st_rounded_small : Stmt := top 54
theorem sc_rounded_small : FnScope ["form", "sign", "size", "power", "q", "r", "unit", "multiple", "loss", "flags"] ["form", "sign", "size", "power", "q", "r"] (defScope st_rounded_small) := ⟨rfl, rfl, rfl, by decide +kernel, rfl, by decide +kernel, by decide +kernel⟩
abbrev st_rounded_to : Stmt := top 53
theorem sc_rounded_to : FnScope ["form", "sign", "size", "power", "q", "r", "unit", "multiple", "exponent"] ["form", "sign", "size", "power", "q", "r"] (defScope st_rounded_to) := ⟨rfl, rfl, rfl, by decide +kernel, rfl, by decide +kernel, by decide +kernel⟩
abbrev st_rounded : Stmt := top 52
theorem sc_rounded : FnScope ["sign", "size", "power", "q", "r"] ["sign", "size", "power", "q", "r"] (defScope st_rounded) := ⟨rfl, rfl, rfl, by decide +kernel, rfl, by decide +kernel, by decide +kernel⟩
abbrev st_added_infinite : Stmt := top 60
theorem sc_added_infinite : FnScope ["a", "b"] ["a", "b"] (defScope st_added_infinite) := ⟨rfl, rfl, rfl, by decide +kernel, rfl, by decide +kernel, by decide +kernel⟩
abbrev st_signed_size : Stmt := top 61
theorem sc_signed_size : FnScope ["number", "power", "size"] ["number", "power"] (defScope st_signed_size) := ⟨rfl, rfl, rfl, by decide +kernel, rfl, by decide +kernel, by decide +kernel⟩
abbrev st_sign_of_zero_sum : Stmt := top 62
theorem sc_sign_of_zero_sum : FnScope ["a", "b", "r"] ["a", "b", "r"] (defScope st_sign_of_zero_sum) := ⟨rfl, rfl, rfl, by decide +kernel, rfl, by decide +kernel, by decide +kernel⟩
abbrev st_added : Stmt := top 58
theorem sc_added : FnScope ["a", "b", "q", "r", "power", "total", "sign"] ["a", "b", "q", "r"] (defScope st_added) := ⟨rfl, rfl, rfl, by decide +kernel, rfl, by decide +kernel, by decide +kernel⟩
abbrev st_Number_init : Stmt := inClass (top 37) 0
theorem sc_Number_init : FnScope ["self", "bits", "exponent_bits"] ["self", "bits"] (defScope st_Number_init) := ⟨rfl, rfl, rfl, by decide +kernel, rfl, by decide +kernel, by decide +kernel⟩
abbrev st_subtracted : Stmt := top 59
theorem sc_subtracted : FnScope ["a", "b", "q", "r"] ["a", "b", "q", "r"] (defScope st_subtracted) := ⟨rfl, rfl, rfl, by decide +kernel, rfl, by decide +kernel, by decide +kernel⟩
abbrev st_multiplied : Stmt := top 63
theorem sc_multiplied : FnScope ["a", "b", "q", "r", "kinds", "sign"] ["a", "b", "q", "r"] (defScope st_multiplied) := ⟨rfl, rfl, rfl, by decide +kernel, rfl, by decide +kernel, by decide +kernel⟩
abbrev st_with_rest_marked : Stmt := top 65
theorem sc_with_rest_marked : FnScope ["whole", "rest"] ["whole", "rest"] (defScope st_with_rest_marked) := ⟨rfl, rfl, rfl, by decide +kernel, rfl, by decide +kernel, by decide +kernel⟩
abbrev st_divided : Stmt := top 64
theorem sc_divided : FnScope ["a", "b", "q", "r", "sign", "dividend", "quotient"] ["a", "b", "q", "r"] (defScope st_divided) := ⟨rfl, rfl, rfl, by decide +kernel, rfl, by decide +kernel, by decide +kernel⟩
abbrev st_precedence : Stmt := top 69
theorem sc_precedence : FnScope ["number"] ["number"] (defScope st_precedence) := ⟨rfl, rfl, rfl, by decide +kernel, rfl, by decide +kernel, by decide +kernel⟩
abbrev st_chosen : Stmt := top 68
theorem sc_chosen : FnScope ["operands", "candidates", "number"] ["operands"] (defScope st_chosen) := ⟨rfl, rfl, rfl, by decide +kernel, rfl, by decide +kernel, by decide +kernel⟩
abbrev st_no_number_told : Stmt := top 67
theorem sc_no_number_told : FnScope ["operands", "kinds", "number", "flags"] ["operands"] (defScope st_no_number_told) := ⟨rfl, rfl, rfl, by decide +kernel, rfl, by decide +kernel, by decide +kernel⟩
abbrev st_with_small_told : Stmt := top 70
theorem sc_with_small_told : FnScope ["told", "operands", "flags", "number"] ["told", "operands"] (defScope st_with_small_told) := ⟨rfl, rfl, rfl, by decide +kernel, rfl, by decide +kernel, by decide +kernel⟩
abbrev st_order_bits : Stmt := top 79
theorem sc_order_bits : FnScope ["first", "second"] ["first", "second"] (defScope st_order_bits) := ⟨rfl, rfl, rfl, by decide +kernel, rfl, by decide +kernel, by decide +kernel⟩
abbrev st_rank : Stmt := top 78
theorem sc_rank : FnScope ["number", "size"] ["number"] (defScope st_rank) := ⟨rfl, rfl, rfl, by decide +kernel, rfl, by decide +kernel, by decide +kernel⟩
abbrev st_compared : Stmt := top 76
theorem sc_compared : FnScope ["a", "b"] ["a", "b"] (defScope st_compared) := ⟨rfl, rfl, rfl, by decide +kernel, rfl, by decide +kernel, by decide +kernel⟩
abbrev st_compared_quietly : Stmt := top 77
theorem sc_compared_quietly : FnScope ["a", "b", "told"] ["a", "b"] (defScope st_compared_quietly) := ⟨rfl, rfl, rfl, by decide +kernel, rfl, by decide +kernel, by decide +kernel⟩
abbrev st_scaled_without_end : Stmt := top 83
theorem sc_scaled_without_end : FnScope ["a", "b", "impossible"] ["a", "b"] (defScope st_scaled_without_end) := ⟨rfl, rfl, rfl, by decide +kernel, rfl, by decide +kernel, by decide +kernel⟩
abbrev st_places_to_scale : Stmt := top 84
theorem sc_places_to_scale : FnScope ["b", "places"] ["b"] (defScope st_places_to_scale) := ⟨rfl, rfl, rfl, by decide +kernel, rfl, by decide +kernel, by decide +kernel⟩
abbrev st_scaled : Stmt := top 82
theorem sc_scaled : FnScope ["a", "b", "r"] ["a", "b", "r"] (defScope st_scaled) := ⟨rfl, rfl, rfl, by decide +kernel, rfl, by decide +kernel, by decide +kernel⟩
abbrev st_rounds_to_next : Stmt := top 89
theorem sc_rounds_to_next : FnScope ["quotient", "rest", "divisor"] ["quotient", "rest", "divisor"] (defScope st_rounds_to_next) := ⟨rfl, rfl, rfl, by decide +kernel, rfl, by decide +kernel, by decide +kernel⟩
abbrev st_quotient_bits : Stmt := top 90
theorem sc_quotient_bits : FnScope ["quotient"] ["quotient"] (defScope st_quotient_bits) := ⟨rfl, rfl, rfl, by decide +kernel, rfl, by decide +kernel, by decide +kernel⟩
abbrev st_finished_remainder : Stmt := top 88
theorem sc_finished_remainder : FnScope ["a", "b", "to_nearest", "power", "dividend", "divisor", "quotient", "rest", "sign"] ["a", "b", "to_nearest"] (defScope st_finished_remainder) := ⟨rfl, rfl, rfl, by decide +kernel, rfl, by decide +kernel, by decide +kernel⟩
abbrev st_partial_remainder : Stmt := top 91
theorem sc_partial_remainder : FnScope ["a", "b", "distance", "divisor_power", "power", "dividend", "divisor"] ["a", "b", "distance"] (defScope st_partial_remainder) := ⟨rfl, rfl, rfl, by decide +kernel, rfl, by decide +kernel, by decide +kernel⟩
abbrev st_remainder : Stmt := top 87
theorem sc_remainder : FnScope ["a", "b", "to_nearest", "distance"] ["a", "b", "to_nearest"] (defScope st_remainder) := ⟨rfl, rfl, rfl, by decide +kernel, rfl, by decide +kernel, by decide +kernel⟩
abbrev st_too_wide : Stmt := top 103
theorem sc_too_wide : FnScope ["bits"] ["bits"] (defScope st_too_wide) := ⟨rfl, rfl, rfl, by decide +kernel, rfl, by decide +kernel, by decide +kernel⟩
abbrev st_result_of_two : Stmt := top 106
theorem sc_result_of_two : FnScope ["op", "q", "r", "a", "b"] ["op", "q", "r", "a", "b"] (defScope st_result_of_two) := ⟨rfl, rfl, rfl, by decide +kernel, rfl, by decide +kernel, by decide +kernel⟩
abbrev st_told_of_two : Stmt := top 105
theorem sc_told_of_two : FnScope ["op", "q", "r", "a", "b", "came"] ["op", "q", "r", "a", "b"] (defScope st_told_of_two) := ⟨rfl, rfl, rfl, by decide +kernel, rfl, by decide +kernel, by decide +kernel⟩
abbrev st_two : Stmt := top 104
theorem sc_two : FnScope ["op", "q", "r", "a", "b"] ["op", "q", "r", "a", "b"] (defScope st_two) := ⟨rfl, rfl, rfl, by decide +kernel, rfl, by decide +kernel, by decide +kernel⟩
section
variable {P : Program} {w : World} {K : Frag} {mg : Str → Option Value} {base : Heap} {cl : ClM}
theorem ok_Format_init (G : Glo K mg cl) {f : Addr} {fd : FuncData} (F : Fun K "__init__" "Format.__init__" st_Format_init f fd) (hm : mg "Format" = some (.ref (cl "Format"))) (M : Mk K (cl "Format") f)  : MkD P w K mg base cl 1 "Format" 3 C_Format_init :=
  have nd := sc_Format_init.nd
  initD F sc_Format_init hm M (F.binds fun _ _ _ _ _ _ us hl => by obtain ⟨_, _, _, _, rfl⟩ := len_us4 hl; rfl) fun cdv A outer s H E hr => ⟨T_Format_init, (pdi_fld (pd_var 1)
    (pdi_fld (pd_var 2)
    (pdi_fld (pd_bin od_sub pd_int (pd_var 2))
    (pdi_fld (pd_var 3)
    (pdi_fld (pd_bin od_plus (pd_bin od_mul pd_int (pd_var 2)) pd_int)
    (pdi_fld (pd_bin od_plus (pd_var 3) (pd_bitlen (pd_fld (pd_var 0) G.cls_Format G.na_all_exponent_bits)))
    pdi_nil G.cls_Format G.na_sign_place) G.cls_Format G.na_all_exponent_bits) G.cls_Format G.na_significand_places) G.cls_Format G.na_least_exponent) G.cls_Format G.na_greatest_exponent) G.cls_Format G.na_digits), rd_Format_init⟩
theorem ok_extended_format (G : Glo K mg cl) {f : Addr} {fd : FuncData} (F : Fun K "extended_format" "extended_format" st_extended_format f fd) (hm : mg "extended_format" = some (.ref f)) (M_Format : MkD P w K mg base cl 1 "Format" 3 C_Format_init) : FnD P w K mg base cl 3 "extended_format" 0 C_extended_format :=
  have nd := sc_extended_format.nd
  fnD F sc_extended_format hm (F.binds fun _ _ _ _ _ _ us hl => by obtain ⟨rfl⟩ := len_us0 hl; rfl) fun cdv A outer s H E hr => ⟨T_extended_format, (pdss_one (pds_ret (pd_make M_Format hr (pda_cons pd_int (pda_cons pd_int (pda_cons pd_int pda_nil)))))), rd_extended_format⟩
theorem ok_too_many_bits (G : Glo K mg cl) {f : Addr} {fd : FuncData} (F : Fun K "too_many_bits" "too_many_bits" st_too_many_bits f fd) (hm : mg "too_many_bits" = some (.ref f))  : FnD P w K mg base cl 1 "too_many_bits" 2 C_too_many_bits :=
  have nd := sc_too_many_bits.nd
  fnD F sc_too_many_bits hm (F.binds fun _ _ _ _ _ _ us hl => by obtain ⟨_, _, rfl⟩ := len_us2 hl; rfl) fun cdv A outer s H E hr => ⟨T_too_many_bits, (pdss_one (pds_ret (pd_cmp od_gt (pd_bin od_shr (pd_var 1) (pd_bin od_plus (pd_fld (pd_var 0) G.cls_Format G.na_sign_place) pd_int)) pd_int))), rd_too_many_bits⟩
theorem ok_shown_bits (G : Glo K mg cl) {f : Addr} {fd : FuncData} (F : Fun K "shown_bits" "shown_bits" st_shown_bits f fd) (hm : mg "shown_bits" = some (.ref f))  : FnD P w K mg base cl 1 "shown_bits" 2 C_shown_bits :=
  have nd := sc_shown_bits.nd
  fnD F sc_shown_bits hm (F.binds fun _ _ _ _ _ _ us hl => by obtain ⟨_, _, rfl⟩ := len_us2 hl; rfl) fun cdv A outer s H E hr => ⟨T_shown_bits, (pdss_one (pds_ret (pd_bin od_and (pd_var 1) (pd_bin od_sub (pd_bin od_shl pd_int (pd_fld (pd_var 0) G.cls_Format G.na_significand_places)) pd_int)))), rd_shown_bits⟩
theorem ok_joined (G : Glo K mg cl) {f : Addr} {fd : FuncData} (F : Fun K "joined" "joined" st_joined f fd) (hm : mg "joined" = some (.ref f)) (F_shown_bits : FnD P w K mg base cl 1 "shown_bits" 2 C_shown_bits) : FnD P w K mg base cl 2 "joined" 4 C_joined :=
  have nd := sc_joined.nd
  fnD F sc_joined hm (F.binds fun _ _ _ _ _ _ us hl => by obtain ⟨_, _, _, _, rfl⟩ := len_us4 hl; rfl) fun cdv A outer s H E hr => ⟨T_joined, (pdss_cons (pds_set 4 (pd_bin od_or (pd_bin od_shl (pd_var 1) (pd_fld (pd_var 0) G.cls_Format G.na_sign_place)) (pd_bin od_shl (pd_var 2) (pd_fld (pd_var 0) G.cls_Format G.na_significand_places))) nd)
    (pdss_one (pds_ret (pd_bin od_or (pd_var 4) (pd_call F_shown_bits hr (pda_cons (pd_var 0) (pda_cons (pd_var 3) pda_nil))))))), rd_joined⟩
theorem ok_shifted (G : Glo K mg cl) {f : Addr} {fd : FuncData} (F : Fun K "shifted" "shifted" st_shifted f fd) (hm : mg "shifted" = some (.ref f))  : FnD P w K mg base cl 1 "shifted" 2 C_shifted :=
  have nd := sc_shifted.nd
  fnD F sc_shifted hm (F.binds fun _ _ _ _ _ _ us hl => by obtain ⟨_, _, rfl⟩ := len_us2 hl; rfl) fun cdv A outer s H E hr => ⟨T_shifted, (pdss_one (pds_ret (pd_if (pdt_cmp od_ge (pd_var 1) pd_int) (pd_bin od_shl (pd_var 0) (pd_var 1)) (pd_bin od_shr (pd_var 0) (pd_neg (pd_var 1)))))), rd_shifted⟩
theorem ok_value_bits (G : Glo K mg cl) {f : Addr} {fd : FuncData} (F : Fun K "value_bits" "value_bits" st_value_bits f fd) (hm : mg "value_bits" = some (.ref f)) (F_joined : FnD P w K mg base cl 2 "joined" 4 C_joined) (F_shifted : FnD P w K mg base cl 2 "shifted" 2 C_shifted) : FnD P w K mg base cl 3 "value_bits" 4 C_value_bits :=
  have nd := sc_value_bits.nd
  fnD F sc_value_bits hm (F.binds fun _ _ _ _ _ _ us hl => by obtain ⟨_, _, _, _, rfl⟩ := len_us4 hl; rfl) fun cdv A outer s H E hr => ⟨T_value_bits, (pdss_cons (pds_if (pdt_cmp od_eq (pd_var 2) pd_int) (pdss_one (pds_ret (pd_call F_joined hr (pda_cons (pd_var 0) (pda_cons (pd_var 1) (pda_cons pd_int (pda_cons pd_int pda_nil))))))) pdss_nil)
    (pdss_cons (pds_set 4 (pd_bin od_plus (pd_bin od_sub (pd_bitlen (pd_var 2)) pd_int) (pd_var 3)) nd)
    (pdss_cons (pds_set 5 (pd_callB cd_max G.b_max boot_max (pda_cons (pd_bin od_plus (pd_bin od_sub (pd_var 4) (pd_fld (pd_var 0) G.cls_Format G.na_least_exponent)) pd_int) (pda_cons pd_int pda_nil))) nd)
    (pdss_cons (pds_set 6 (pd_bin od_plus (pd_bin od_sub (pd_callB cd_max G.b_max boot_max (pda_cons (pd_var 4) (pda_cons (pd_fld (pd_var 0) G.cls_Format G.na_least_exponent) pda_nil))) (pd_fld (pd_var 0) G.cls_Format G.na_digits)) pd_int) nd)
    (pdss_one (pds_ret (pd_call F_joined hr (pda_cons (pd_var 0) (pda_cons (pd_var 1) (pda_cons (pd_var 5) (pda_cons (pd_call F_shifted hr (pda_cons (pd_var 2) (pda_cons (pd_bin od_sub (pd_var 3) (pd_var 6)) pda_nil))) pda_nil))))))))))), rd_value_bits⟩
theorem ok_endless_bits (G : Glo K mg cl) {f : Addr} {fd : FuncData} (F : Fun K "endless_bits" "endless_bits" st_endless_bits f fd) (hm : mg "endless_bits" = some (.ref f)) (F_joined : FnD P w K mg base cl 2 "joined" 4 C_joined) : FnD P w K mg base cl 3 "endless_bits" 2 C_endless_bits :=
  have nd := sc_endless_bits.nd
  fnD F sc_endless_bits hm (F.binds fun _ _ _ _ _ _ us hl => by obtain ⟨_, _, rfl⟩ := len_us2 hl; rfl) fun cdv A outer s H E hr => ⟨T_endless_bits, (pdss_one (pds_ret (pd_call F_joined hr (pda_cons (pd_var 0) (pda_cons (pd_var 1) (pda_cons (pd_fld (pd_var 0) G.cls_Format G.na_all_exponent_bits) (pda_cons (pd_bin od_shl pd_int (pd_bin od_sub (pd_fld (pd_var 0) G.cls_Format G.na_digits) pd_int)) pda_nil))))))), rd_endless_bits⟩
theorem ok_kind_of (G : Glo K mg cl) {f : Addr} {fd : FuncData} (F : Fun K "kind_of" "kind_of" st_kind_of f fd) (hm : mg "kind_of" = some (.ref f))  : FnD P w K mg base cl 1 "kind_of" 2 C_kind_of :=
  have nd := sc_kind_of.nd
  fnD F sc_kind_of hm (F.binds fun _ _ _ _ _ _ us hl => by obtain ⟨_, _, rfl⟩ := len_us2 hl; rfl) fun cdv A outer s H E hr => ⟨T_kind_of, (pdss_cons (pds_set 2 (pd_bin od_and (pd_var 1) (pd_globK G.g_HIGHEST_SIGNIFICAND_BIT)) nd)
    (pdss_cons (pds_if (pdt_cmp od_eq (pd_var 0) pd_int) (pdss_cons (pds_if (pdt_cmp od_eq (pd_var 1) pd_int) (pdss_one (pds_ret (pd_globK G.g_ZERO))) pdss_nil)
    (pdss_one (pds_ret (pd_if (pdt_truth (pd_var 2)) (pd_globK G.g_NEARLY_SMALL) (pd_globK G.g_SMALL))))) pdss_nil)
    (pdss_cons (pds_if (pdt_not (pdt_truth (pd_var 2))) (pdss_one (pds_ret (pd_globK G.g_ODD))) pdss_nil)
    (pdss_cons (pds_if (pdt_cmp od_lt (pd_var 0) (pd_globK G.g_ALL_EXPONENT_BITS)) (pdss_one (pds_ret (pd_globK G.g_NORMAL))) pdss_nil)
    (pdss_cons (pds_if (pdt_cmp od_eq (pd_var 1) (pd_var 2)) (pdss_one (pds_ret (pd_globK G.g_INFINITE))) pdss_nil)
    (pdss_one (pds_ret (pd_if (pdt_truth (pd_bin od_and (pd_var 1) (pd_globK G.g_QUIET_BIT))) (pd_globK G.g_QUIET) (pd_globK G.g_LOUD))))))))), rd_kind_of⟩
theorem ok_is_small (G : Glo K mg cl) {f : Addr} {fd : FuncData} (F : Fun K "is_small" "is_small" st_is_small f fd) (hm : mg "is_small" = some (.ref f))  : FnD P w K mg base cl 1 "is_small" 1 C_is_small :=
  have nd := sc_is_small.nd
  fnD F sc_is_small hm (F.binds fun _ _ _ _ _ _ us hl => by obtain ⟨_, rfl⟩ := len_us1 hl; rfl) fun cdv A outer s H E hr => ⟨T_is_small, (pdss_one (pds_ret (pd_cmp od_in (pd_fld (pd_var 0) G.cls_Number G.na_kind) (pd_tup (pda_cons (pd_globK G.g_SMALL) (pda_cons (pd_globK G.g_NEARLY_SMALL) pda_nil)))))), rd_is_small⟩
theorem ok_is_no_number (G : Glo K mg cl) {f : Addr} {fd : FuncData} (F : Fun K "is_no_number" "is_no_number" st_is_no_number f fd) (hm : mg "is_no_number" = some (.ref f))  : FnD P w K mg base cl 1 "is_no_number" 1 C_is_no_number :=
  have nd := sc_is_no_number.nd
  fnD F sc_is_no_number hm (F.binds fun _ _ _ _ _ _ us hl => by obtain ⟨_, rfl⟩ := len_us1 hl; rfl) fun cdv A outer s H E hr => ⟨T_is_no_number, (pdss_one (pds_ret (pd_cmp od_in (pd_fld (pd_var 0) G.cls_Number G.na_kind) (pd_tup (pda_cons (pd_globK G.g_QUIET) (pda_cons (pd_globK G.g_LOUD) (pda_cons (pd_globK G.g_ODD) pda_nil))))))), rd_is_no_number⟩
theorem ok_exponent_of (G : Glo K mg cl) {f : Addr} {fd : FuncData} (F : Fun K "exponent_of" "exponent_of" st_exponent_of f fd) (hm : mg "exponent_of" = some (.ref f))  : FnD P w K mg base cl 1 "exponent_of" 1 C_exponent_of :=
  have nd := sc_exponent_of.nd
  fnD F sc_exponent_of hm (F.binds fun _ _ _ _ _ _ us hl => by obtain ⟨_, rfl⟩ := len_us1 hl; rfl) fun cdv A outer s H E hr => ⟨T_exponent_of, (pdss_one (pds_ret (pd_bin od_plus (pd_bin od_sub (pd_bitlen (pd_fld (pd_var 0) G.cls_Number G.na_significand)) pd_int) (pd_fld (pd_var 0) G.cls_Number G.na_power)))), rd_exponent_of⟩
theorem ok_turned (G : Glo K mg cl) {f : Addr} {fd : FuncData} (F : Fun K "turned" "turned" st_turned f fd) (hm : mg "turned" = some (.ref f))  : FnD P w K mg base cl 1 "turned" 1 C_turned :=
  have nd := sc_turned.nd
  fnD F sc_turned hm (F.binds fun _ _ _ _ _ _ us hl => by obtain ⟨_, rfl⟩ := len_us1 hl; rfl) fun cdv A outer s H E hr => ⟨T_turned, (pdss_one (pds_ret (pd_bin od_xor (pd_var 0) (pd_bin od_shl pd_int (pd_globK G.g_SIGN_PLACE))))), rd_turned⟩
theorem ok_without_sign (G : Glo K mg cl) {f : Addr} {fd : FuncData} (F : Fun K "without_sign" "without_sign" st_without_sign f fd) (hm : mg "without_sign" = some (.ref f))  : FnD P w K mg base cl 1 "without_sign" 1 C_without_sign :=
  have nd := sc_without_sign.nd
  fnD F sc_without_sign hm (F.binds fun _ _ _ _ _ _ us hl => by obtain ⟨_, rfl⟩ := len_us1 hl; rfl) fun cdv A outer s H E hr => ⟨T_without_sign, (pdss_one (pds_ret (pd_bin od_and (pd_var 0) (pd_bin od_sub (pd_bin od_shl pd_int (pd_globK G.g_SIGN_PLACE)) pd_int)))), rd_without_sign⟩
theorem ok_zero_bits (G : Glo K mg cl) {f : Addr} {fd : FuncData} (F : Fun K "zero_bits" "zero_bits" st_zero_bits f fd) (hm : mg "zero_bits" = some (.ref f)) (F_joined : FnD P w K mg base cl 3 "joined" 4 C_joined) (F_extended_format : FnD P w K mg base cl 3 "extended_format" 0 C_extended_format) : FnD P w K mg base cl 4 "zero_bits" 1 C_zero_bits :=
  have nd := sc_zero_bits.nd
  fnD F sc_zero_bits hm (F.binds fun _ _ _ _ _ _ us hl => by obtain ⟨_, rfl⟩ := len_us1 hl; rfl) fun cdv A outer s H E hr => ⟨T_zero_bits, (pdss_one (pds_ret (pd_call F_joined hr (pda_cons (pd_call0 F_extended_format hr) (pda_cons (pd_var 0) (pda_cons pd_int (pda_cons pd_int pda_nil))))))), rd_zero_bits⟩
theorem ok_infinite_bits (G : Glo K mg cl) {f : Addr} {fd : FuncData} (F : Fun K "infinite_bits" "infinite_bits" st_infinite_bits f fd) (hm : mg "infinite_bits" = some (.ref f)) (F_endless_bits : FnD P w K mg base cl 3 "endless_bits" 2 C_endless_bits) (F_extended_format : FnD P w K mg base cl 3 "extended_format" 0 C_extended_format) : FnD P w K mg base cl 4 "infinite_bits" 1 C_infinite_bits :=
  have nd := sc_infinite_bits.nd
  fnD F sc_infinite_bits hm (F.binds fun _ _ _ _ _ _ us hl => by obtain ⟨_, rfl⟩ := len_us1 hl; rfl) fun cdv A outer s H E hr => ⟨T_infinite_bits, (pdss_one (pds_ret (pd_call F_endless_bits hr (pda_cons (pd_call0 F_extended_format hr) (pda_cons (pd_var 0) pda_nil))))), rd_infinite_bits⟩
theorem ok_finite_bits (G : Glo K mg cl) {f : Addr} {fd : FuncData} (F : Fun K "finite_bits" "finite_bits" st_finite_bits f fd) (hm : mg "finite_bits" = some (.ref f)) (F_value_bits : FnD P w K mg base cl 3 "value_bits" 4 C_value_bits) (F_extended_format : FnD P w K mg base cl 3 "extended_format" 0 C_extended_format) : FnD P w K mg base cl 4 "finite_bits" 3 C_finite_bits :=
  have nd := sc_finite_bits.nd
  fnD F sc_finite_bits hm (F.binds fun _ _ _ _ _ _ us hl => by obtain ⟨_, _, _, rfl⟩ := len_us3 hl; rfl) fun cdv A outer s H E hr => ⟨T_finite_bits, (pdss_one (pds_ret (pd_call F_value_bits hr (pda_cons (pd_call0 F_extended_format hr) (pda_cons (pd_var 0) (pda_cons (pd_var 1) (pda_cons (pd_var 2) pda_nil))))))), rd_finite_bits⟩
theorem ok_bits_by_value (G : Glo K mg cl) {f : Addr} {fd : FuncData} (F : Fun K "bits_by_value" "bits_by_value" st_bits_by_value f fd) (hm : mg "bits_by_value" = some (.ref f)) (F_finite_bits : FnD P w K mg base cl 4 "finite_bits" 3 C_finite_bits) : FnD P w K mg base cl 5 "bits_by_value" 1 C_bits_by_value :=
  have nd := sc_bits_by_value.nd
  fnD F sc_bits_by_value hm (F.binds fun _ _ _ _ _ _ us hl => by obtain ⟨_, rfl⟩ := len_us1 hl; rfl) fun cdv A outer s H E hr => ⟨T_bits_by_value, (pdss_cons (pds_if (pdt_cmp od_eq (pd_fld (pd_var 0) G.cls_Number G.na_kind) (pd_globK G.g_INFINITE)) (pdss_one (pds_ret (pd_fld (pd_var 0) G.cls_Number G.na_bits))) pdss_nil)
    (pdss_one (pds_ret (pd_call F_finite_bits hr (pda_cons (pd_fld (pd_var 0) G.cls_Number G.na_sign) (pda_cons (pd_fld (pd_var 0) G.cls_Number G.na_significand) (pda_cons (pd_fld (pd_var 0) G.cls_Number G.na_power) pda_nil))))))), rd_bits_by_value⟩
theorem ok_rounds_away (G : Glo K mg cl) {f : Addr} {fd : FuncData} (F : Fun K "rounds_away" "rounds_away" st_rounds_away f fd) (hm : mg "rounds_away" = some (.ref f))  : FnD P w K mg base cl 1 "rounds_away" 5 C_rounds_away :=
  have nd := sc_rounds_away.nd
  fnD F sc_rounds_away hm (F.binds fun _ _ _ _ _ _ us hl => by obtain ⟨_, _, _, _, _, rfl⟩ := len_us5 hl; rfl) fun cdv A outer s H E hr => ⟨T_rounds_away, (pdss_cons (pds_if (pdt_cmp od_eq (pd_var 4) (pd_globK G.g_NEAR)) (pdss_one (pds_ret (pd_or (pd_cmp od_gt (pd_var 2) (pd_var 3)) (pd_one (pd_and (pd_cmp od_eq (pd_var 2) (pd_var 3)) (pd_one (pd_cmp od_eq (pd_bin od_mod (pd_var 1) pd_int) pd_int))))))) pdss_nil)
    (pdss_cons (pds_if (pdt_cmp od_eq (pd_var 4) (pd_globK G.g_DOWN)) (pdss_one (pds_ret (pd_cmp od_eq (pd_var 0) pd_int))) pdss_nil)
    (pdss_cons (pds_if (pdt_cmp od_eq (pd_var 4) (pd_globK G.g_UPWARD)) (pdss_one (pds_ret (pd_cmp od_eq (pd_var 0) pd_int))) pdss_nil)
    (pdss_one (pds_ret pd_bl))))), rd_rounds_away⟩
theorem ok_rounded_multiple (G : Glo K mg cl) {f : Addr} {fd : FuncData} (F : Fun K "rounded_multiple" "rounded_multiple" st_rounded_multiple f fd) (hm : mg "rounded_multiple" = some (.ref f)) (F_rounds_away : FnD P w K mg base cl 1 "rounds_away" 5 C_rounds_away) : FnD P w K mg base cl 2 "rounded_multiple" 5 C_rounded_multiple :=
  have nd := sc_rounded_multiple.nd
  fnD F sc_rounded_multiple hm (F.binds fun _ _ _ _ _ _ us hl => by obtain ⟨_, _, _, _, _, rfl⟩ := len_us5 hl; rfl) fun cdv A outer s H E hr => ⟨T_rounded_multiple, (pdss_cons (pds_set 5 (pd_bin od_sub (pd_var 3) (pd_var 2)) nd)
    (pdss_cons (pds_if (pdt_cmp od_le (pd_var 5) pd_int) (pdss_one (pds_ret (pd_bin od_shl (pd_var 1) (pd_neg (pd_var 5))))) pdss_nil)
    (pdss_cons (pds_set 6 (pd_bin od_shr (pd_var 1) (pd_var 5)) nd)
    (pdss_cons (pds_set 7 (pd_bin od_sub (pd_var 1) (pd_bin od_shl (pd_var 6) (pd_var 5))) nd)
    (pdss_cons (pds_if (pdt_w (pdw_and (pdt_cmp od_gt (pd_var 7) pd_int) (pdw_and1 (pdt_truth (pd_call F_rounds_away hr (pda_cons (pd_var 0) (pda_cons (pd_var 6) (pda_cons (pd_var 7) (pda_cons (pd_bin od_shl pd_int (pd_bin od_sub (pd_var 5) pd_int)) (pda_cons (pd_var 4) pda_nil)))))))))) (pdss_one (pds_ret (pd_bin od_plus (pd_var 6) pd_int))) pdss_nil)
    (pdss_one (pds_ret (pd_var 6)))))))), rd_rounded_multiple⟩
theorem ok_flags_of_loss (G : Glo K mg cl) {f : Addr} {fd : FuncData} (F : Fun K "flags_of_loss" "flags_of_loss" st_flags_of_loss f fd) (hm : mg "flags_of_loss" = some (.ref f))  : FnD P w K mg base cl 1 "flags_of_loss" 4 C_flags_of_loss :=
  have nd := sc_flags_of_loss.nd
  fnD F sc_flags_of_loss hm (F.binds fun _ _ _ _ _ _ us hl => by obtain ⟨_, _, _, _, rfl⟩ := len_us4 hl; rfl) fun cdv A outer s H E hr => ⟨T_flags_of_loss, (pdss_cons (pds_set 4 (pd_bin od_sub (pd_var 1) (pd_var 3)) nd)
    (pdss_cons (pds_if (pdt_cmp od_le (pd_var 4) pd_int) (pdss_one (pds_ret pd_int)) pdss_nil)
    (pdss_cons (pds_set 5 (pd_bin od_shl (pd_var 0) (pd_var 4)) nd)
    (pdss_cons (pds_if (pdt_cmp od_eq (pd_var 5) (pd_var 2)) (pdss_one (pds_ret pd_int)) pdss_nil)
    (pdss_one (pds_ret (pd_if (pdt_cmp od_gt (pd_var 5) (pd_var 2)) (pd_bin od_plus (pd_globK G.g_INEXACT) (pd_globK G.g_UP)) (pd_globK G.g_INEXACT)))))))), rd_flags_of_loss⟩
theorem ok_overflowed (G : Glo K mg cl) {f : Addr} {fd : FuncData} (F : Fun K "overflowed" "overflowed" st_overflowed f fd) (hm : mg "overflowed" = some (.ref f)) (F_value_bits : FnD P w K mg base cl 3 "value_bits" 4 C_value_bits) (F_endless_bits : FnD P w K mg base cl 3 "endless_bits" 2 C_endless_bits) : FnD P w K mg base cl 4 "overflowed" 4 C_overflowed :=
  have nd := sc_overflowed.nd
  fnD F sc_overflowed hm (F.binds fun _ _ _ _ _ _ us hl => by obtain ⟨_, _, _, _, rfl⟩ := len_us4 hl; rfl) fun cdv A outer s H E hr => ⟨T_overflowed, (pdss_cons (pds_if (pdt_w (pdw_or (pdt_cmp od_eq (pd_var 3) (pd_globK G.g_CUT)) (pdw_or (pdt_w (pdw_and (pdt_cmp od_eq (pd_var 3) (pd_globK G.g_DOWN)) (pdw_and1 (pdt_cmp od_eq (pd_var 1) pd_int)))) (pdw_or1 (pdt_w (pdw_and (pdt_cmp od_eq (pd_var 3) (pd_globK G.g_UPWARD)) (pdw_and1 (pdt_cmp od_eq (pd_var 1) pd_int)))))))) (pdss_cons (pds_set 4 (pd_call F_value_bits hr (pda_cons (pd_var 0) (pda_cons (pd_var 1) (pda_cons (pd_bin od_sub (pd_bin od_shl pd_int (pd_var 2)) pd_int) (pda_cons (pd_bin od_plus (pd_bin od_sub (pd_fld (pd_var 0) G.cls_Format G.na_greatest_exponent) (pd_var 2)) pd_int) pda_nil))))) nd)
    (pdss_one (pds_ret (pd_lst (pda_cons (pd_var 4) (pda_cons (pd_bin od_plus (pd_globK G.g_OVERFLOW) (pd_globK G.g_INEXACT)) pda_nil)))))) pdss_nil)
    (pdss_one (pds_ret (pd_lst (pda_cons (pd_call F_endless_bits hr (pda_cons (pd_var 0) (pda_cons (pd_var 1) pda_nil))) (pda_cons (pd_bin od_plus (pd_bin od_plus (pd_globK G.g_OVERFLOW) (pd_globK G.g_INEXACT)) (pd_globK G.g_UP)) pda_nil)))))), rd_overflowed⟩
theorem ok_rounded_small (G : Glo K mg cl) {f : Addr} {fd : FuncData} (F : Fun K "rounded_small" "rounded_small" st_rounded_small f fd) (hm : mg "rounded_small" = some (.ref f)) (F_rounded_multiple : FnD P w K mg base cl 3 "rounded_multiple" 5 C_rounded_multiple) (F_flags_of_loss : FnD P w K mg base cl 3 "flags_of_loss" 4 C_flags_of_loss) (F_value_bits : FnD P w K mg base cl 3 "value_bits" 4 C_value_bits) : FnD P w K mg base cl 4 "rounded_small" 6 C_rounded_small :=
  have nd := sc_rounded_small.nd
  fnD F sc_rounded_small hm (F.binds fun _ _ _ _ _ _ us hl => by obtain ⟨_, _, _, _, _, _, rfl⟩ := len_us6 hl; rfl) fun cdv A outer s H E hr => ⟨T_rounded_small, (pdss_cons (pds_set 6 (pd_bin od_plus (pd_bin od_sub (pd_fld (pd_var 0) G.cls_Format G.na_least_exponent) (pd_var 4)) pd_int) nd)
    (pdss_cons (pds_set 7 (pd_call F_rounded_multiple hr (pda_cons (pd_var 1) (pda_cons (pd_var 2) (pda_cons (pd_var 3) (pda_cons (pd_var 6) (pda_cons (pd_var 5) pda_nil)))))) nd)
    (pdss_cons (pds_set 8 (pd_call F_flags_of_loss hr (pda_cons (pd_var 7) (pda_cons (pd_var 6) (pda_cons (pd_var 2) (pda_cons (pd_var 3) pda_nil))))) nd)
    (pdss_cons (pds_set 9 (pd_if (pdt_truth (pd_var 8)) (pd_bin od_plus (pd_globK G.g_UNDERFLOW) (pd_var 8)) pd_int) nd)
    (pdss_one (pds_ret (pd_lst (pda_cons (pd_call F_value_bits hr (pda_cons (pd_var 0) (pda_cons (pd_var 1) (pda_cons (pd_var 7) (pda_cons (pd_var 6) pda_nil))))) (pda_cons (pd_var 9) pda_nil))))))))), rd_rounded_small⟩
theorem ok_rounded_to (G : Glo K mg cl) {f : Addr} {fd : FuncData} (F : Fun K "rounded_to" "rounded_to" st_rounded_to f fd) (hm : mg "rounded_to" = some (.ref f)) (F_rounded_multiple : FnD P w K mg base cl 4 "rounded_multiple" 5 C_rounded_multiple) (F_overflowed : FnD P w K mg base cl 4 "overflowed" 4 C_overflowed) (F_rounded_small : FnD P w K mg base cl 4 "rounded_small" 6 C_rounded_small) (F_flags_of_loss : FnD P w K mg base cl 4 "flags_of_loss" 4 C_flags_of_loss) (F_value_bits : FnD P w K mg base cl 4 "value_bits" 4 C_value_bits) : FnD P w K mg base cl 5 "rounded_to" 6 C_rounded_to :=
  have nd := sc_rounded_to.nd
  fnD F sc_rounded_to hm (F.binds fun _ _ _ _ _ _ us hl => by obtain ⟨_, _, _, _, _, _, rfl⟩ := len_us6 hl; rfl) fun cdv A outer s H E hr => ⟨T_rounded_to, (pdss_cons (pds_set 6 (pd_bin od_sub (pd_bin od_plus (pd_bitlen (pd_var 2)) (pd_var 3)) (pd_var 4)) nd)
    (pdss_cons (pds_set 7 (pd_call F_rounded_multiple hr (pda_cons (pd_var 1) (pda_cons (pd_var 2) (pda_cons (pd_var 3) (pda_cons (pd_var 6) (pda_cons (pd_var 5) pda_nil)))))) nd)
    (pdss_cons (pds_set 8 (pd_bin od_plus (pd_bin od_sub (pd_bitlen (pd_var 7)) pd_int) (pd_var 6)) nd)
    (pdss_cons (pds_if (pdt_cmp od_gt (pd_var 8) (pd_fld (pd_var 0) G.cls_Format G.na_greatest_exponent)) (pdss_one (pds_ret (pd_call F_overflowed hr (pda_cons (pd_var 0) (pda_cons (pd_var 1) (pda_cons (pd_var 4) (pda_cons (pd_var 5) pda_nil))))))) pdss_nil)
    (pdss_cons (pds_if (pdt_cmp od_lt (pd_var 8) (pd_fld (pd_var 0) G.cls_Format G.na_least_exponent)) (pdss_one (pds_ret (pd_call F_rounded_small hr (pda_cons (pd_var 0) (pda_cons (pd_var 1) (pda_cons (pd_var 2) (pda_cons (pd_var 3) (pda_cons (pd_var 4) (pda_cons (pd_var 5) pda_nil))))))))) pdss_nil)
    (pdss_one (pds_ret (pd_lst (pda_cons (pd_call F_value_bits hr (pda_cons (pd_var 0) (pda_cons (pd_var 1) (pda_cons (pd_var 7) (pda_cons (pd_var 6) pda_nil))))) (pda_cons (pd_call F_flags_of_loss hr (pda_cons (pd_var 7) (pda_cons (pd_var 6) (pda_cons (pd_var 2) (pda_cons (pd_var 3) pda_nil))))) pda_nil)))))))))), rd_rounded_to⟩
theorem ok_rounded (G : Glo K mg cl) {f : Addr} {fd : FuncData} (F : Fun K "rounded" "rounded" st_rounded f fd) (hm : mg "rounded" = some (.ref f)) (F_rounded_to : FnD P w K mg base cl 5 "rounded_to" 6 C_rounded_to) (F_extended_format : FnD P w K mg base cl 5 "extended_format" 0 C_extended_format) : FnD P w K mg base cl 6 "rounded" 5 C_rounded :=
  have nd := sc_rounded.nd
  fnD F sc_rounded hm (F.binds fun _ _ _ _ _ _ us hl => by obtain ⟨_, _, _, _, _, rfl⟩ := len_us5 hl; rfl) fun cdv A outer s H E hr => ⟨T_rounded, (pdss_one (pds_ret (pd_call F_rounded_to hr (pda_cons (pd_call0 F_extended_format hr) (pda_cons (pd_var 0) (pda_cons (pd_var 1) (pda_cons (pd_var 2) (pda_cons (pd_var 3) (pda_cons (pd_var 4) pda_nil))))))))), rd_rounded⟩
theorem ok_added_infinite (G : Glo K mg cl) {f : Addr} {fd : FuncData} (F : Fun K "added_infinite" "added_infinite" st_added_infinite f fd) (hm : mg "added_infinite" = some (.ref f))  : FnD P w K mg base cl 1 "added_infinite" 2 C_added_infinite :=
  have nd := sc_added_infinite.nd
  fnD F sc_added_infinite hm (F.binds fun _ _ _ _ _ _ us hl => by obtain ⟨_, _, rfl⟩ := len_us2 hl; rfl) fun cdv A outer s H E hr => ⟨T_added_infinite, (pdss_cons (pds_if (pdt_w (pdw_and (pdt_cmp od_eq (pd_fld (pd_var 0) G.cls_Number G.na_kind) (pd_fld (pd_var 1) G.cls_Number G.na_kind)) (pdw_and1 (pdt_cmp od_ne (pd_fld (pd_var 0) G.cls_Number G.na_sign) (pd_fld (pd_var 1) G.cls_Number G.na_sign))))) (pdss_one (pds_ret (pd_lst (pda_cons (pd_globK G.g_EMPTY) (pda_cons (pd_globK G.g_INVALID) pda_nil))))) pdss_nil)
    (pdss_one (pds_ret (pd_lst (pda_cons (pd_if (pdt_cmp od_eq (pd_fld (pd_var 0) G.cls_Number G.na_kind) (pd_globK G.g_INFINITE)) (pd_fld (pd_var 0) G.cls_Number G.na_bits) (pd_fld (pd_var 1) G.cls_Number G.na_bits)) (pda_cons pd_int pda_nil)))))), rd_added_infinite⟩
theorem ok_signed_size (G : Glo K mg cl) {f : Addr} {fd : FuncData} (F : Fun K "signed_size" "signed_size" st_signed_size f fd) (hm : mg "signed_size" = some (.ref f))  : FnD P w K mg base cl 1 "signed_size" 2 C_signed_size :=
  have nd := sc_signed_size.nd
  fnD F sc_signed_size hm (F.binds fun _ _ _ _ _ _ us hl => by obtain ⟨_, _, rfl⟩ := len_us2 hl; rfl) fun cdv A outer s H E hr => ⟨T_signed_size, (pdss_cons (pds_set 2 (pd_bin od_shl (pd_fld (pd_var 0) G.cls_Number G.na_significand) (pd_bin od_sub (pd_fld (pd_var 0) G.cls_Number G.na_power) (pd_var 1))) nd)
    (pdss_one (pds_ret (pd_if (pdt_truth (pd_fld (pd_var 0) G.cls_Number G.na_sign)) (pd_neg (pd_var 2)) (pd_var 2))))), rd_signed_size⟩
theorem ok_sign_of_zero_sum (G : Glo K mg cl) {f : Addr} {fd : FuncData} (F : Fun K "sign_of_zero_sum" "sign_of_zero_sum" st_sign_of_zero_sum f fd) (hm : mg "sign_of_zero_sum" = some (.ref f))  : FnD P w K mg base cl 1 "sign_of_zero_sum" 3 C_sign_of_zero_sum :=
  have nd := sc_sign_of_zero_sum.nd
  fnD F sc_sign_of_zero_sum hm (F.binds fun _ _ _ _ _ _ us hl => by obtain ⟨_, _, _, rfl⟩ := len_us3 hl; rfl) fun cdv A outer s H E hr => ⟨T_sign_of_zero_sum, (pdss_cons (pds_if (pdt_cmp od_eq (pd_fld (pd_var 0) G.cls_Number G.na_sign) (pd_fld (pd_var 1) G.cls_Number G.na_sign)) (pdss_one (pds_ret (pd_fld (pd_var 0) G.cls_Number G.na_sign))) pdss_nil)
    (pdss_one (pds_ret (pd_if (pdt_cmp od_eq (pd_var 2) (pd_globK G.g_DOWN)) pd_int pd_int)))), rd_sign_of_zero_sum⟩
theorem ok_added (G : Glo K mg cl) {f : Addr} {fd : FuncData} (F : Fun K "added" "added" st_added f fd) (hm : mg "added" = some (.ref f)) (F_added_infinite : FnD P w K mg base cl 6 "added_infinite" 2 C_added_infinite) (F_signed_size : FnD P w K mg base cl 6 "signed_size" 2 C_signed_size) (F_zero_bits : FnD P w K mg base cl 6 "zero_bits" 1 C_zero_bits) (F_sign_of_zero_sum : FnD P w K mg base cl 6 "sign_of_zero_sum" 3 C_sign_of_zero_sum) (F_rounded : FnD P w K mg base cl 6 "rounded" 5 C_rounded) : FnD P w K mg base cl 7 "added" 4 C_added :=
  have nd := sc_added.nd
  fnD F sc_added hm (F.binds fun _ _ _ _ _ _ us hl => by obtain ⟨_, _, _, _, rfl⟩ := len_us4 hl; rfl) fun cdv A outer s H E hr => ⟨T_added, (pdss_cons (pds_if (pdt_cmp od_in (pd_globK G.g_INFINITE) (pd_tup (pda_cons (pd_fld (pd_var 0) G.cls_Number G.na_kind) (pda_cons (pd_fld (pd_var 1) G.cls_Number G.na_kind) pda_nil)))) (pdss_one (pds_ret (pd_call F_added_infinite hr (pda_cons (pd_var 0) (pda_cons (pd_var 1) pda_nil))))) pdss_nil)
    (pdss_cons (pds_set 4 (pd_callB cd_min G.b_min boot_min (pda_cons (pd_fld (pd_var 0) G.cls_Number G.na_power) (pda_cons (pd_fld (pd_var 1) G.cls_Number G.na_power) pda_nil))) nd)
    (pdss_cons (pds_set 5 (pd_bin od_plus (pd_call F_signed_size hr (pda_cons (pd_var 0) (pda_cons (pd_var 4) pda_nil))) (pd_call F_signed_size hr (pda_cons (pd_var 1) (pda_cons (pd_var 4) pda_nil)))) nd)
    (pdss_cons (pds_if (pdt_cmp od_eq (pd_var 5) pd_int) (pdss_one (pds_ret (pd_lst (pda_cons (pd_call F_zero_bits hr (pda_cons (pd_call F_sign_of_zero_sum hr (pda_cons (pd_var 0) (pda_cons (pd_var 1) (pda_cons (pd_var 3) pda_nil)))) pda_nil)) (pda_cons pd_int pda_nil))))) pdss_nil)
    (pdss_cons (pds_set 6 (pd_if (pdt_cmp od_lt (pd_var 5) pd_int) pd_int pd_int) nd)
    (pdss_one (pds_ret (pd_call F_rounded hr (pda_cons (pd_var 6) (pda_cons (pd_callB cd_abs G.b_abs boot_abs (pda_cons (pd_var 5) pda_nil)) (pda_cons (pd_var 4) (pda_cons (pd_var 2) (pda_cons (pd_var 3) pda_nil))))))))))))), rd_added⟩
theorem ok_Number_init (G : Glo K mg cl) {f : Addr} {fd : FuncData} (F : Fun K "__init__" "Number.__init__" st_Number_init f fd) (hm : mg "Number" = some (.ref (cl "Number"))) (M : Mk K (cl "Number") f) (F_kind_of : FnD P w K mg base cl 1 "kind_of" 2 C_kind_of) : MkD P w K mg base cl 2 "Number" 1 C_Number_init :=
  have nd := sc_Number_init.nd
  initD F sc_Number_init hm M (F.binds fun _ _ _ _ _ _ us hl => by obtain ⟨_, _, rfl⟩ := len_us2 hl; rfl) fun cdv A outer s H E hr => ⟨T_Number_init, (pdi_set 1 (pd_bin od_and (pd_bin od_shr (pd_var 1) (pd_globK G.g_DIGITS)) (pd_globK G.g_ALL_EXPONENT_BITS))
    (pdi_fld (pd_var 1)
    (pdi_fld (pd_bin od_shr (pd_var 1) (pd_globK G.g_SIGN_PLACE))
    (pdi_fld (pd_bin od_and (pd_var 1) (pd_globK G.g_ALL_SIGNIFICAND_BITS))
    (pdi_fld (pd_call F_kind_of hr (pda_cons (pd_var 2) (pda_cons (pd_fld (pd_var 0) G.cls_Number G.na_significand) pda_nil)))
    (pdi_fld (pd_bin od_sub (pd_bin od_plus (pd_callB cd_max G.b_max boot_max (pda_cons (pd_var 2) (pda_cons pd_int pda_nil))) (pd_globK G.g_LEAST_EXPONENT)) (pd_globK G.g_DIGITS))
    pdi_nil G.cls_Number G.na_power) G.cls_Number G.na_kind) G.cls_Number G.na_significand) G.cls_Number G.na_sign) G.cls_Number G.na_bits) nd), rd_Number_init⟩
theorem ok_subtracted (G : Glo K mg cl) {f : Addr} {fd : FuncData} (F : Fun K "subtracted" "subtracted" st_subtracted f fd) (hm : mg "subtracted" = some (.ref f)) (F_added : FnD P w K mg base cl 7 "added" 4 C_added) (F_turned : FnD P w K mg base cl 7 "turned" 1 C_turned) (M_Number : MkD P w K mg base cl 6 "Number" 1 C_Number_init) : FnD P w K mg base cl 8 "subtracted" 4 C_subtracted :=
  have nd := sc_subtracted.nd
  fnD F sc_subtracted hm (F.binds fun _ _ _ _ _ _ us hl => by obtain ⟨_, _, _, _, rfl⟩ := len_us4 hl; rfl) fun cdv A outer s H E hr => ⟨T_subtracted, (pdss_one (pds_ret (pd_call F_added hr (pda_cons (pd_var 0) (pda_cons (pd_make M_Number hr (pda_cons (pd_call F_turned hr (pda_cons (pd_fld (pd_var 1) G.cls_Number G.na_bits) pda_nil)) pda_nil)) (pda_cons (pd_var 2) (pda_cons (pd_var 3) pda_nil))))))), rd_subtracted⟩
theorem ok_multiplied (G : Glo K mg cl) {f : Addr} {fd : FuncData} (F : Fun K "multiplied" "multiplied" st_multiplied f fd) (hm : mg "multiplied" = some (.ref f)) (F_infinite_bits : FnD P w K mg base cl 6 "infinite_bits" 1 C_infinite_bits) (F_zero_bits : FnD P w K mg base cl 6 "zero_bits" 1 C_zero_bits) (F_rounded : FnD P w K mg base cl 6 "rounded" 5 C_rounded) : FnD P w K mg base cl 7 "multiplied" 4 C_multiplied :=
  have nd := sc_multiplied.nd
  fnD F sc_multiplied hm (F.binds fun _ _ _ _ _ _ us hl => by obtain ⟨_, _, _, _, rfl⟩ := len_us4 hl; rfl) fun cdv A outer s H E hr => ⟨T_multiplied, (pdss_cons (pds_set 4 (pd_tup (pda_cons (pd_fld (pd_var 0) G.cls_Number G.na_kind) (pda_cons (pd_fld (pd_var 1) G.cls_Number G.na_kind) pda_nil))) nd)
    (pdss_cons (pds_set 5 (pd_bin od_xor (pd_fld (pd_var 0) G.cls_Number G.na_sign) (pd_fld (pd_var 1) G.cls_Number G.na_sign)) nd)
    (pdss_cons (pds_if (pdt_w (pdw_and (pdt_cmp od_in (pd_globK G.g_INFINITE) (pd_var 4)) (pdw_and1 (pdt_cmp od_in (pd_globK G.g_ZERO) (pd_var 4))))) (pdss_one (pds_ret (pd_lst (pda_cons (pd_globK G.g_EMPTY) (pda_cons (pd_globK G.g_INVALID) pda_nil))))) pdss_nil)
    (pdss_cons (pds_if (pdt_cmp od_in (pd_globK G.g_INFINITE) (pd_var 4)) (pdss_one (pds_ret (pd_lst (pda_cons (pd_call F_infinite_bits hr (pda_cons (pd_var 5) pda_nil)) (pda_cons pd_int pda_nil))))) pdss_nil)
    (pdss_cons (pds_if (pdt_cmp od_in (pd_globK G.g_ZERO) (pd_var 4)) (pdss_one (pds_ret (pd_lst (pda_cons (pd_call F_zero_bits hr (pda_cons (pd_var 5) pda_nil)) (pda_cons pd_int pda_nil))))) pdss_nil)
    (pdss_one (pds_ret (pd_call F_rounded hr (pda_cons (pd_var 5) (pda_cons (pd_bin od_mul (pd_fld (pd_var 0) G.cls_Number G.na_significand) (pd_fld (pd_var 1) G.cls_Number G.na_significand)) (pda_cons (pd_bin od_plus (pd_fld (pd_var 0) G.cls_Number G.na_power) (pd_fld (pd_var 1) G.cls_Number G.na_power)) (pda_cons (pd_var 2) (pda_cons (pd_var 3) pda_nil))))))))))))), rd_multiplied⟩
theorem ok_with_rest_marked (G : Glo K mg cl) {f : Addr} {fd : FuncData} (F : Fun K "with_rest_marked" "with_rest_marked" st_with_rest_marked f fd) (hm : mg "with_rest_marked" = some (.ref f))  : FnD P w K mg base cl 1 "with_rest_marked" 2 C_with_rest_marked :=
  have nd := sc_with_rest_marked.nd
  fnD F sc_with_rest_marked hm (F.binds fun _ _ _ _ _ _ us hl => by obtain ⟨_, _, rfl⟩ := len_us2 hl; rfl) fun cdv A outer s H E hr => ⟨T_with_rest_marked, (pdss_one (pds_ret (pd_bin od_plus (pd_bin od_mul pd_int (pd_var 0)) (pd_if (pdt_truth (pd_var 1)) pd_int pd_int)))), rd_with_rest_marked⟩
theorem ok_divided (G : Glo K mg cl) {f : Addr} {fd : FuncData} (F : Fun K "divided" "divided" st_divided f fd) (hm : mg "divided" = some (.ref f)) (F_infinite_bits : FnD P w K mg base cl 6 "infinite_bits" 1 C_infinite_bits) (F_zero_bits : FnD P w K mg base cl 6 "zero_bits" 1 C_zero_bits) (F_with_rest_marked : FnD P w K mg base cl 6 "with_rest_marked" 2 C_with_rest_marked) (F_rounded : FnD P w K mg base cl 6 "rounded" 5 C_rounded) : FnD P w K mg base cl 7 "divided" 4 C_divided :=
  have nd := sc_divided.nd
  fnD F sc_divided hm (F.binds fun _ _ _ _ _ _ us hl => by obtain ⟨_, _, _, _, rfl⟩ := len_us4 hl; rfl) fun cdv A outer s H E hr => ⟨T_divided, (pdss_cons (pds_set 4 (pd_bin od_xor (pd_fld (pd_var 0) G.cls_Number G.na_sign) (pd_fld (pd_var 1) G.cls_Number G.na_sign)) nd)
    (pdss_cons (pds_if (pdt_w (pdw_and (pdt_cmp od_eq (pd_fld (pd_var 0) G.cls_Number G.na_kind) (pd_fld (pd_var 1) G.cls_Number G.na_kind)) (pdw_and1 (pdt_cmp od_in (pd_fld (pd_var 0) G.cls_Number G.na_kind) (pd_tup (pda_cons (pd_globK G.g_ZERO) (pda_cons (pd_globK G.g_INFINITE) pda_nil))))))) (pdss_one (pds_ret (pd_lst (pda_cons (pd_globK G.g_EMPTY) (pda_cons (pd_globK G.g_INVALID) pda_nil))))) pdss_nil)
    (pdss_cons (pds_if (pdt_cmp od_eq (pd_fld (pd_var 0) G.cls_Number G.na_kind) (pd_globK G.g_INFINITE)) (pdss_one (pds_ret (pd_lst (pda_cons (pd_call F_infinite_bits hr (pda_cons (pd_var 4) pda_nil)) (pda_cons pd_int pda_nil))))) pdss_nil)
    (pdss_cons (pds_if (pdt_cmp od_eq (pd_fld (pd_var 1) G.cls_Number G.na_kind) (pd_globK G.g_ZERO)) (pdss_one (pds_ret (pd_lst (pda_cons (pd_call F_infinite_bits hr (pda_cons (pd_var 4) pda_nil)) (pda_cons (pd_globK G.g_DIVIDED_BY_ZERO) pda_nil))))) pdss_nil)
    (pdss_cons (pds_if (pdt_w (pdw_or (pdt_cmp od_eq (pd_fld (pd_var 0) G.cls_Number G.na_kind) (pd_globK G.g_ZERO)) (pdw_or1 (pdt_cmp od_eq (pd_fld (pd_var 1) G.cls_Number G.na_kind) (pd_globK G.g_INFINITE))))) (pdss_one (pds_ret (pd_lst (pda_cons (pd_call F_zero_bits hr (pda_cons (pd_var 4) pda_nil)) (pda_cons pd_int pda_nil))))) pdss_nil)
    (pdss_cons (pds_set 5 (pd_bin od_shl (pd_fld (pd_var 0) G.cls_Number G.na_significand) (pd_globK G.g_EXTRA_PLACES)) nd)
    (pdss_cons (pds_set 6 (pd_call F_with_rest_marked hr (pda_cons (pd_bin od_fdiv (pd_var 5) (pd_fld (pd_var 1) G.cls_Number G.na_significand)) (pda_cons (pd_bin od_mod (pd_var 5) (pd_fld (pd_var 1) G.cls_Number G.na_significand)) pda_nil))) nd)
    (pdss_one (pds_ret (pd_call F_rounded hr (pda_cons (pd_var 4) (pda_cons (pd_var 6) (pda_cons (pd_bin od_sub (pd_bin od_sub (pd_bin od_sub (pd_fld (pd_var 0) G.cls_Number G.na_power) (pd_globK G.g_EXTRA_PLACES)) (pd_fld (pd_var 1) G.cls_Number G.na_power)) pd_int) (pda_cons (pd_var 2) (pda_cons (pd_var 3) pda_nil))))))))))))))), rd_divided⟩
theorem ok_precedence (G : Glo K mg cl) {f : Addr} {fd : FuncData} (F : Fun K "precedence" "precedence" st_precedence f fd) (hm : mg "precedence" = some (.ref f))  : FnD P w K mg base cl 1 "precedence" 1 C_precedence :=
  have nd := sc_precedence.nd
  fnD F sc_precedence hm (F.binds fun _ _ _ _ _ _ us hl => by obtain ⟨_, rfl⟩ := len_us1 hl; rfl) fun cdv A outer s H E hr => ⟨T_precedence, (pdss_one (pds_ret (pd_tup (pda_cons (pd_fld (pd_var 0) G.cls_Number G.na_significand) (pda_cons (pd_bin od_sub pd_int (pd_fld (pd_var 0) G.cls_Number G.na_sign)) pda_nil))))), rd_precedence⟩
theorem ok_chosen (G : Glo K mg cl) {f : Addr} {fd : FuncData} (F : Fun K "chosen" "chosen" st_chosen f fd) (hm : mg "chosen" = some (.ref f)) (F_is_no_number : FnD P w K mg base cl 2 "is_no_number" 1 C_is_no_number) (F_precedence : FnD P w K mg base cl 1 "precedence" 1 C_precedence) : FnD P w K mg base cl 3 "chosen" 1 C_chosen :=
  have nd := sc_chosen.nd
  fnD F sc_chosen hm (F.binds fun _ _ _ _ _ _ us hl => by obtain ⟨_, rfl⟩ := len_us1 hl; rfl) fun cdv A outer s H E hr => ⟨T_chosen, (pdss_cons (pds_setLcV 1 2 (pd_var 0) nd (fun _ _ _ _ _ => pdts_one (pdt_truth (pd_call F_is_no_number hr (pda_cons (pd_var 2) pda_nil)))))
    (pdss_one (pds_ret (pd_maxKey F_precedence hr G.b_max boot_max (pd_var 1))))), rd_chosen⟩
theorem ok_no_number_told (G : Glo K mg cl) {f : Addr} {fd : FuncData} (F : Fun K "no_number_told" "no_number_told" st_no_number_told f fd) (hm : mg "no_number_told" = some (.ref f)) (F_chosen : FnD P w K mg base cl 3 "chosen" 1 C_chosen) : FnD P w K mg base cl 4 "no_number_told" 1 C_no_number_told :=
  have nd := sc_no_number_told.nd
  fnD F sc_no_number_told hm (F.binds fun _ _ _ _ _ _ us hl => by obtain ⟨_, rfl⟩ := len_us1 hl; rfl) fun cdv A outer s H E hr => ⟨T_no_number_told, (pdss_cons (pds_setLcF 1 2 (pd_var 0) nd (fun _ _ _ _ _ => pdts_nil) (fun _ _ _ _ _ => (pd_fld (pd_var 2) G.cls_Number G.na_kind)))
    (pdss_cons (pds_if (pdt_cmp od_in (pd_globK G.g_ODD) (pd_var 1)) (pdss_one (pds_ret (pd_lst (pda_cons (pd_globK G.g_EMPTY) (pda_cons (pd_globK G.g_INVALID) pda_nil))))) pdss_nil)
    (pdss_cons (pds_if (pdt_w (pdw_and (pdt_cmp od_notin (pd_globK G.g_QUIET) (pd_var 1)) (pdw_and1 (pdt_cmp od_notin (pd_globK G.g_LOUD) (pd_var 1))))) (pdss_one (pds_ret pd_non)) pdss_nil)
    (pdss_cons (pds_set 3 (pd_if (pdt_cmp od_in (pd_globK G.g_LOUD) (pd_var 1)) (pd_globK G.g_INVALID) pd_int) nd)
    (pdss_one (pds_ret (pd_lst (pda_cons (pd_bin od_or (pd_fld (pd_call F_chosen hr (pda_cons (pd_var 0) pda_nil)) G.cls_Number G.na_bits) (pd_globK G.g_QUIET_BIT)) (pda_cons (pd_var 3) pda_nil))))))))), rd_no_number_told⟩
theorem ok_with_small_told (G : Glo K mg cl) {f : Addr} {fd : FuncData} (F : Fun K "with_small_told" "with_small_told" st_with_small_told f fd) (hm : mg "with_small_told" = some (.ref f)) (F_is_small : FnD P w K mg base cl 1 "is_small" 1 C_is_small) : FnD P w K mg base cl 2 "with_small_told" 2 C_with_small_told :=
  have nd := sc_with_small_told.nd
  fnD F sc_with_small_told hm (F.binds fun _ _ _ _ _ _ us hl => by obtain ⟨_, _, rfl⟩ := len_us2 hl; rfl) fun cdv A outer s H E hr => ⟨T_with_small_told, (pdss_cons (pds_set 2 (pd_ix (pd_var 0) (pd_neg pd_int)) nd)
    (pdss_cons (pds_if (pdt_w (pdw_and (pdt_cmp od_eq (pd_bin od_and (pd_var 2) (pd_bin od_or (pd_globK G.g_INVALID) (pd_globK G.g_DIVIDED_BY_ZERO))) pd_int) (pdw_and1 (pdt_truth (pd_callB cd_any G.b_any boot_any (pda_cons (pd_lcF 3 (pd_var 1) nd (fun _ _ _ _ _ => pdts_nil) (fun _ _ _ _ _ => (pd_call F_is_small hr (pda_cons (pd_var 3) pda_nil)))) pda_nil)))))) (pdss_one (pds_set 2 (pd_bin od_plus (pd_var 2) (pd_globK G.g_SMALL_IN)) nd)) pdss_nil)
    (pdss_one (pds_ret (pd_bin od_plus (pd_slice (pd_var 0) pdo_none (pdo_some (pd_neg pd_int))) (pd_lst (pda_cons (pd_var 2) pda_nil))))))), rd_with_small_told⟩
theorem ok_order_bits (G : Glo K mg cl) {f : Addr} {fd : FuncData} (F : Fun K "order_bits" "order_bits" st_order_bits f fd) (hm : mg "order_bits" = some (.ref f))  : FnD P w K mg base cl 1 "order_bits" 2 C_order_bits :=
  have nd := sc_order_bits.nd
  fnD F sc_order_bits hm (F.binds fun _ _ _ _ _ _ us hl => by obtain ⟨_, _, rfl⟩ := len_us2 hl; rfl) fun cdv A outer s H E hr => ⟨T_order_bits, (pdss_cons (pds_if (pdt_cmp od_eq (pd_var 0) (pd_var 1)) (pdss_one (pds_ret (pd_globK G.g_EQUAL))) pdss_nil)
    (pdss_one (pds_ret (pd_if (pdt_cmp od_gt (pd_var 0) (pd_var 1)) (pd_globK G.g_ABOVE) (pd_globK G.g_BELOW))))), rd_order_bits⟩
theorem ok_rank (G : Glo K mg cl) {f : Addr} {fd : FuncData} (F : Fun K "rank" "rank" st_rank f fd) (hm : mg "rank" = some (.ref f)) (F_without_sign : FnD P w K mg base cl 5 "without_sign" 1 C_without_sign) (F_bits_by_value : FnD P w K mg base cl 5 "bits_by_value" 1 C_bits_by_value) : FnD P w K mg base cl 6 "rank" 1 C_rank :=
  have nd := sc_rank.nd
  fnD F sc_rank hm (F.binds fun _ _ _ _ _ _ us hl => by obtain ⟨_, rfl⟩ := len_us1 hl; rfl) fun cdv A outer s H E hr => ⟨T_rank, (pdss_cons (pds_set 1 (pd_call F_without_sign hr (pda_cons (pd_call F_bits_by_value hr (pda_cons (pd_var 0) pda_nil)) pda_nil)) nd)
    (pdss_one (pds_ret (pd_if (pdt_truth (pd_fld (pd_var 0) G.cls_Number G.na_sign)) (pd_neg (pd_var 1)) (pd_var 1))))), rd_rank⟩
theorem ok_compared (G : Glo K mg cl) {f : Addr} {fd : FuncData} (F : Fun K "compared" "compared" st_compared f fd) (hm : mg "compared" = some (.ref f)) (F_is_no_number : FnD P w K mg base cl 6 "is_no_number" 1 C_is_no_number) (F_with_small_told : FnD P w K mg base cl 6 "with_small_told" 2 C_with_small_told) (F_order_bits : FnD P w K mg base cl 6 "order_bits" 2 C_order_bits) (F_rank : FnD P w K mg base cl 6 "rank" 1 C_rank) : FnD P w K mg base cl 7 "compared" 2 C_compared :=
  have nd := sc_compared.nd
  fnD F sc_compared hm (F.binds fun _ _ _ _ _ _ us hl => by obtain ⟨_, _, rfl⟩ := len_us2 hl; rfl) fun cdv A outer s H E hr => ⟨T_compared, (pdss_cons (pds_if (pdt_w (pdw_or (pdt_truth (pd_call F_is_no_number hr (pda_cons (pd_var 0) pda_nil))) (pdw_or1 (pdt_truth (pd_call F_is_no_number hr (pda_cons (pd_var 1) pda_nil)))))) (pdss_one (pds_ret (pd_lst (pda_cons (pd_globK G.g_NOT_ORDERED) (pda_cons (pd_globK G.g_INVALID) pda_nil))))) pdss_nil)
    (pdss_one (pds_ret (pd_call F_with_small_told hr (pda_cons (pd_lst (pda_cons (pd_call F_order_bits hr (pda_cons (pd_call F_rank hr (pda_cons (pd_var 0) pda_nil)) (pda_cons (pd_call F_rank hr (pda_cons (pd_var 1) pda_nil)) pda_nil))) (pda_cons pd_int pda_nil))) (pda_cons (pd_lst (pda_cons (pd_var 0) (pda_cons (pd_var 1) pda_nil))) pda_nil)))))), rd_compared⟩
theorem ok_compared_quietly (G : Glo K mg cl) {f : Addr} {fd : FuncData} (F : Fun K "compared_quietly" "compared_quietly" st_compared_quietly f fd) (hm : mg "compared_quietly" = some (.ref f)) (F_compared : FnD P w K mg base cl 7 "compared" 2 C_compared) : FnD P w K mg base cl 8 "compared_quietly" 2 C_compared_quietly :=
  have nd := sc_compared_quietly.nd
  fnD F sc_compared_quietly hm (F.binds fun _ _ _ _ _ _ us hl => by obtain ⟨_, _, rfl⟩ := len_us2 hl; rfl) fun cdv A outer s H E hr => ⟨T_compared_quietly, (pdss_cons (pds_set 2 (pd_call F_compared hr (pda_cons (pd_var 0) (pda_cons (pd_var 1) pda_nil))) nd)
    (pdss_cons (pds_if (pdt_w (pdw_and (pdt_cmp od_eq (pd_ix (pd_var 2) pd_int) (pd_globK G.g_NOT_ORDERED)) (pdw_and (pdt_cmp od_notin (pd_globK G.g_LOUD) (pd_tup (pda_cons (pd_fld (pd_var 0) G.cls_Number G.na_kind) (pda_cons (pd_fld (pd_var 1) G.cls_Number G.na_kind) pda_nil)))) (pdw_and1 (pdt_cmp od_notin (pd_globK G.g_ODD) (pd_tup (pda_cons (pd_fld (pd_var 0) G.cls_Number G.na_kind) (pda_cons (pd_fld (pd_var 1) G.cls_Number G.na_kind) pda_nil)))))))) (pdss_one (pds_ret (pd_lst (pda_cons (pd_globK G.g_NOT_ORDERED) (pda_cons pd_int pda_nil))))) pdss_nil)
    (pdss_one (pds_ret (pd_var 2))))), rd_compared_quietly⟩
theorem ok_scaled_without_end (G : Glo K mg cl) {f : Addr} {fd : FuncData} (F : Fun K "scaled_without_end" "scaled_without_end" st_scaled_without_end f fd) (hm : mg "scaled_without_end" = some (.ref f)) (F_zero_bits : FnD P w K mg base cl 4 "zero_bits" 1 C_zero_bits) (F_infinite_bits : FnD P w K mg base cl 4 "infinite_bits" 1 C_infinite_bits) : FnD P w K mg base cl 5 "scaled_without_end" 2 C_scaled_without_end :=
  have nd := sc_scaled_without_end.nd
  fnD F sc_scaled_without_end hm (F.binds fun _ _ _ _ _ _ us hl => by obtain ⟨_, _, rfl⟩ := len_us2 hl; rfl) fun cdv A outer s H E hr => ⟨T_scaled_without_end, (pdss_cons (pds_set 2 (pd_if (pdt_truth (pd_fld (pd_var 1) G.cls_Number G.na_sign)) (pd_globK G.g_INFINITE) (pd_globK G.g_ZERO)) nd)
    (pdss_cons (pds_if (pdt_cmp od_eq (pd_fld (pd_var 0) G.cls_Number G.na_kind) (pd_var 2)) (pdss_one (pds_ret (pd_lst (pda_cons (pd_globK G.g_EMPTY) (pda_cons (pd_globK G.g_INVALID) pda_nil))))) pdss_nil)
    (pdss_one (pds_ret (pd_lst (pda_cons (pd_if (pdt_truth (pd_fld (pd_var 1) G.cls_Number G.na_sign)) (pd_call F_zero_bits hr (pda_cons (pd_fld (pd_var 0) G.cls_Number G.na_sign) pda_nil)) (pd_call F_infinite_bits hr (pda_cons (pd_fld (pd_var 0) G.cls_Number G.na_sign) pda_nil))) (pda_cons pd_int pda_nil))))))), rd_scaled_without_end⟩
theorem ok_places_to_scale (G : Glo K mg cl) {f : Addr} {fd : FuncData} (F : Fun K "places_to_scale" "places_to_scale" st_places_to_scale f fd) (hm : mg "places_to_scale" = some (.ref f)) (F_shifted : FnD P w K mg base cl 1 "shifted" 2 C_shifted) : FnD P w K mg base cl 2 "places_to_scale" 1 C_places_to_scale :=
  have nd := sc_places_to_scale.nd
  fnD F sc_places_to_scale hm (F.binds fun _ _ _ _ _ _ us hl => by obtain ⟨_, rfl⟩ := len_us1 hl; rfl) fun cdv A outer s H E hr => ⟨T_places_to_scale, (pdss_cons (pds_set 1 (pd_callB cd_min G.b_min boot_min (pda_cons (pd_call F_shifted hr (pda_cons (pd_fld (pd_var 0) G.cls_Number G.na_significand) (pda_cons (pd_fld (pd_var 0) G.cls_Number G.na_power) pda_nil))) (pda_cons (pd_globK G.g_FAR) pda_nil))) nd)
    (pdss_one (pds_ret (pd_if (pdt_truth (pd_fld (pd_var 0) G.cls_Number G.na_sign)) (pd_neg (pd_var 1)) (pd_var 1))))), rd_places_to_scale⟩
theorem ok_scaled (G : Glo K mg cl) {f : Addr} {fd : FuncData} (F : Fun K "scaled" "scaled" st_scaled f fd) (hm : mg "scaled" = some (.ref f)) (F_scaled_without_end : FnD P w K mg base cl 6 "scaled_without_end" 2 C_scaled_without_end) (F_rounded : FnD P w K mg base cl 6 "rounded" 5 C_rounded) (F_places_to_scale : FnD P w K mg base cl 6 "places_to_scale" 1 C_places_to_scale) : FnD P w K mg base cl 7 "scaled" 3 C_scaled :=
  have nd := sc_scaled.nd
  fnD F sc_scaled hm (F.binds fun _ _ _ _ _ _ us hl => by obtain ⟨_, _, _, rfl⟩ := len_us3 hl; rfl) fun cdv A outer s H E hr => ⟨T_scaled, (pdss_cons (pds_if (pdt_cmp od_eq (pd_fld (pd_var 1) G.cls_Number G.na_kind) (pd_globK G.g_INFINITE)) (pdss_one (pds_ret (pd_call F_scaled_without_end hr (pda_cons (pd_var 0) (pda_cons (pd_var 1) pda_nil))))) pdss_nil)
    (pdss_cons (pds_if (pdt_cmp od_in (pd_fld (pd_var 0) G.cls_Number G.na_kind) (pd_tup (pda_cons (pd_globK G.g_ZERO) (pda_cons (pd_globK G.g_INFINITE) pda_nil)))) (pdss_one (pds_ret (pd_lst (pda_cons (pd_fld (pd_var 0) G.cls_Number G.na_bits) (pda_cons pd_int pda_nil))))) pdss_nil)
    (pdss_one (pds_ret (pd_call F_rounded hr (pda_cons (pd_fld (pd_var 0) G.cls_Number G.na_sign) (pda_cons (pd_fld (pd_var 0) G.cls_Number G.na_significand) (pda_cons (pd_bin od_plus (pd_fld (pd_var 0) G.cls_Number G.na_power) (pd_call F_places_to_scale hr (pda_cons (pd_var 1) pda_nil))) (pda_cons (pd_globK G.g_DIGITS) (pda_cons (pd_var 2) pda_nil)))))))))), rd_scaled⟩
theorem ok_rounds_to_next (G : Glo K mg cl) {f : Addr} {fd : FuncData} (F : Fun K "rounds_to_next" "rounds_to_next" st_rounds_to_next f fd) (hm : mg "rounds_to_next" = some (.ref f))  : FnD P w K mg base cl 1 "rounds_to_next" 3 C_rounds_to_next :=
  have nd := sc_rounds_to_next.nd
  fnD F sc_rounds_to_next hm (F.binds fun _ _ _ _ _ _ us hl => by obtain ⟨_, _, _, rfl⟩ := len_us3 hl; rfl) fun cdv A outer s H E hr => ⟨T_rounds_to_next, (pdss_one (pds_ret (pd_or (pd_cmp od_gt (pd_bin od_mul pd_int (pd_var 1)) (pd_var 2)) (pd_one (pd_and (pd_cmp od_eq (pd_bin od_mul pd_int (pd_var 1)) (pd_var 2)) (pd_one (pd_cmp od_eq (pd_bin od_mod (pd_var 0) pd_int) pd_int))))))), rd_rounds_to_next⟩
theorem ok_quotient_bits (G : Glo K mg cl) {f : Addr} {fd : FuncData} (F : Fun K "quotient_bits" "quotient_bits" st_quotient_bits f fd) (hm : mg "quotient_bits" = some (.ref f))  : FnD P w K mg base cl 1 "quotient_bits" 1 C_quotient_bits :=
  have nd := sc_quotient_bits.nd
  fnD F sc_quotient_bits hm (F.binds fun _ _ _ _ _ _ us hl => by obtain ⟨_, rfl⟩ := len_us1 hl; rfl) fun cdv A outer s H E hr => ⟨T_quotient_bits, (pdss_one (pds_ret (pd_bin od_plus (pd_bin od_plus (pd_bin od_mul (pd_bin od_and (pd_var 0) pd_int) pd_int) (pd_bin od_mul (pd_bin od_and (pd_bin od_shr (pd_var 0) pd_int) pd_int) pd_int)) (pd_bin od_and (pd_bin od_shr (pd_var 0) pd_int) pd_int)))), rd_quotient_bits⟩
theorem ok_finished_remainder (G : Glo K mg cl) {f : Addr} {fd : FuncData} (F : Fun K "finished_remainder" "finished_remainder" st_finished_remainder f fd) (hm : mg "finished_remainder" = some (.ref f)) (F_rounds_to_next : FnD P w K mg base cl 4 "rounds_to_next" 3 C_rounds_to_next) (F_quotient_bits : FnD P w K mg base cl 4 "quotient_bits" 1 C_quotient_bits) (F_finite_bits : FnD P w K mg base cl 4 "finite_bits" 3 C_finite_bits) : FnD P w K mg base cl 5 "finished_remainder" 3 C_finished_remainder :=
  have nd := sc_finished_remainder.nd
  fnD F sc_finished_remainder hm (F.binds fun _ _ _ _ _ _ us hl => by obtain ⟨_, _, _, rfl⟩ := len_us3 hl; rfl) fun cdv A outer s H E hr => ⟨T_finished_remainder, (pdss_cons (pds_set 3 (pd_callB cd_min G.b_min boot_min (pda_cons (pd_fld (pd_var 0) G.cls_Number G.na_power) (pda_cons (pd_fld (pd_var 1) G.cls_Number G.na_power) pda_nil))) nd)
    (pdss_cons (pds_set 4 (pd_bin od_shl (pd_fld (pd_var 0) G.cls_Number G.na_significand) (pd_bin od_sub (pd_fld (pd_var 0) G.cls_Number G.na_power) (pd_var 3))) nd)
    (pdss_cons (pds_set 5 (pd_bin od_shl (pd_fld (pd_var 1) G.cls_Number G.na_significand) (pd_bin od_sub (pd_fld (pd_var 1) G.cls_Number G.na_power) (pd_var 3))) nd)
    (pdss_cons (pds_set 6 (pd_bin od_fdiv (pd_var 4) (pd_var 5)) nd)
    (pdss_cons (pds_set 7 (pd_bin od_mod (pd_var 4) (pd_var 5)) nd)
    (pdss_cons (pds_if (pdt_w (pdw_and (pdt_truth (pd_var 2)) (pdw_and1 (pdt_truth (pd_call F_rounds_to_next hr (pda_cons (pd_var 6) (pda_cons (pd_var 7) (pda_cons (pd_var 5) pda_nil)))))))) (pdss_cons (pds_set 6 (pd_bin od_plus (pd_var 6) pd_int) nd)
    (pdss_one (pds_set 7 (pd_bin od_sub (pd_var 7) (pd_var 5)) nd))) pdss_nil)
    (pdss_cons (pds_set 8 (pd_if (pdt_cmp od_lt (pd_var 7) pd_int) (pd_bin od_sub pd_int (pd_fld (pd_var 0) G.cls_Number G.na_sign)) (pd_fld (pd_var 0) G.cls_Number G.na_sign)) nd)
    (pdss_one (pds_ret (pd_lst (pda_cons (pd_call F_finite_bits hr (pda_cons (pd_var 8) (pda_cons (pd_callB cd_abs G.b_abs boot_abs (pda_cons (pd_var 7) pda_nil)) (pda_cons (pd_var 3) pda_nil)))) (pda_cons (pd_call F_quotient_bits hr (pda_cons (pd_var 6) pda_nil)) (pda_cons pd_int pda_nil))))))))))))), rd_finished_remainder⟩
theorem ok_partial_remainder (G : Glo K mg cl) {f : Addr} {fd : FuncData} (F : Fun K "partial_remainder" "partial_remainder" st_partial_remainder f fd) (hm : mg "partial_remainder" = some (.ref f)) (F_finite_bits : FnD P w K mg base cl 4 "finite_bits" 3 C_finite_bits) : FnD P w K mg base cl 5 "partial_remainder" 3 C_partial_remainder :=
  have nd := sc_partial_remainder.nd
  fnD F sc_partial_remainder hm (F.binds fun _ _ _ _ _ _ us hl => by obtain ⟨_, _, _, rfl⟩ := len_us3 hl; rfl) fun cdv A outer s H E hr => ⟨T_partial_remainder, (pdss_cons (pds_set 3 (pd_bin od_sub (pd_bin od_plus (pd_fld (pd_var 1) G.cls_Number G.na_power) (pd_var 2)) (pd_bin od_plus pd_int (pd_bin od_mod (pd_var 2) pd_int))) nd)
    (pdss_cons (pds_set 4 (pd_callB cd_min G.b_min boot_min (pda_cons (pd_fld (pd_var 0) G.cls_Number G.na_power) (pda_cons (pd_var 3) pda_nil))) nd)
    (pdss_cons (pds_set 5 (pd_bin od_shl (pd_fld (pd_var 0) G.cls_Number G.na_significand) (pd_bin od_sub (pd_fld (pd_var 0) G.cls_Number G.na_power) (pd_var 4))) nd)
    (pdss_cons (pds_set 6 (pd_bin od_shl (pd_fld (pd_var 1) G.cls_Number G.na_significand) (pd_bin od_sub (pd_var 3) (pd_var 4))) nd)
    (pdss_one (pds_ret (pd_lst (pda_cons (pd_call F_finite_bits hr (pda_cons (pd_fld (pd_var 0) G.cls_Number G.na_sign) (pda_cons (pd_bin od_mod (pd_var 5) (pd_var 6)) (pda_cons (pd_var 4) pda_nil)))) (pda_cons (pd_globK G.g_UNFINISHED) (pda_cons pd_int pda_nil)))))))))), rd_partial_remainder⟩
theorem ok_remainder (G : Glo K mg cl) {f : Addr} {fd : FuncData} (F : Fun K "remainder" "remainder" st_remainder f fd) (hm : mg "remainder" = some (.ref f)) (F_bits_by_value : FnD P w K mg base cl 5 "bits_by_value" 1 C_bits_by_value) (F_exponent_of : FnD P w K mg base cl 5 "exponent_of" 1 C_exponent_of) (F_finished_remainder : FnD P w K mg base cl 5 "finished_remainder" 3 C_finished_remainder) (F_partial_remainder : FnD P w K mg base cl 5 "partial_remainder" 3 C_partial_remainder) : FnD P w K mg base cl 6 "remainder" 3 C_remainder :=
  have nd := sc_remainder.nd
  fnD F sc_remainder hm (F.binds fun _ _ _ _ _ _ us hl => by obtain ⟨_, _, _, rfl⟩ := len_us3 hl; rfl) fun cdv A outer s H E hr => ⟨T_remainder, (pdss_cons (pds_if (pdt_w (pdw_or (pdt_cmp od_eq (pd_fld (pd_var 0) G.cls_Number G.na_kind) (pd_globK G.g_INFINITE)) (pdw_or1 (pdt_cmp od_eq (pd_fld (pd_var 1) G.cls_Number G.na_kind) (pd_globK G.g_ZERO))))) (pdss_one (pds_ret (pd_lst (pda_cons (pd_globK G.g_EMPTY) (pda_cons pd_int (pda_cons (pd_globK G.g_INVALID) pda_nil)))))) pdss_nil)
    (pdss_cons (pds_if (pdt_w (pdw_or (pdt_cmp od_eq (pd_fld (pd_var 1) G.cls_Number G.na_kind) (pd_globK G.g_INFINITE)) (pdw_or1 (pdt_cmp od_eq (pd_fld (pd_var 0) G.cls_Number G.na_kind) (pd_globK G.g_ZERO))))) (pdss_one (pds_ret (pd_lst (pda_cons (pd_call F_bits_by_value hr (pda_cons (pd_var 0) pda_nil)) (pda_cons pd_int (pda_cons pd_int pda_nil)))))) pdss_nil)
    (pdss_cons (pds_set 3 (pd_bin od_sub (pd_call F_exponent_of hr (pda_cons (pd_var 0) pda_nil)) (pd_call F_exponent_of hr (pda_cons (pd_var 1) pda_nil))) nd)
    (pdss_cons (pds_if (pdt_cmp od_lt (pd_var 3) pd_int) (pdss_one (pds_ret (pd_call F_finished_remainder hr (pda_cons (pd_var 0) (pda_cons (pd_var 1) (pda_cons (pd_var 2) pda_nil)))))) pdss_nil)
    (pdss_one (pds_ret (pd_call F_partial_remainder hr (pda_cons (pd_var 0) (pda_cons (pd_var 1) (pda_cons (pd_var 3) pda_nil)))))))))), rd_remainder⟩
theorem ok_too_wide (G : Glo K mg cl) {f : Addr} {fd : FuncData} (F : Fun K "too_wide" "too_wide" st_too_wide f fd) (hm : mg "too_wide" = some (.ref f)) (F_too_many_bits : FnD P w K mg base cl 3 "too_many_bits" 2 C_too_many_bits) (F_extended_format : FnD P w K mg base cl 3 "extended_format" 0 C_extended_format) : FnD P w K mg base cl 4 "too_wide" 1 C_too_wide :=
  have nd := sc_too_wide.nd
  fnD F sc_too_wide hm (F.binds fun _ _ _ _ _ _ us hl => by obtain ⟨_, rfl⟩ := len_us1 hl; rfl) fun cdv A outer s H E hr => ⟨T_too_wide, (pdss_one (pds_ret (pd_call F_too_many_bits hr (pda_cons (pd_call0 F_extended_format hr) (pda_cons (pd_var 0) pda_nil))))), rd_too_wide⟩
theorem ok_result_of_two (G : Glo K mg cl) {f : Addr} {fd : FuncData} (F : Fun K "result_of_two" "result_of_two" st_result_of_two f fd) (hm : mg "result_of_two" = some (.ref f)) (F_added : FnD P w K mg base cl 8 "added" 4 C_added) (F_subtracted : FnD P w K mg base cl 8 "subtracted" 4 C_subtracted) (F_multiplied : FnD P w K mg base cl 8 "multiplied" 4 C_multiplied) (F_divided : FnD P w K mg base cl 8 "divided" 4 C_divided) (F_scaled : FnD P w K mg base cl 8 "scaled" 3 C_scaled) (F_remainder : FnD P w K mg base cl 8 "remainder" 3 C_remainder) : FnD P w K mg base cl 9 "result_of_two" 5 C_result_of_two :=
  have nd := sc_result_of_two.nd
  fnD F sc_result_of_two hm (F.binds fun _ _ _ _ _ _ us hl => by obtain ⟨_, _, _, _, _, rfl⟩ := len_us5 hl; rfl) fun cdv A outer s H E hr => ⟨T_result_of_two, (pdss_cons (pds_if (pdt_cmp od_eq (pd_var 0) (pd_globK G.g_ADD)) (pdss_one (pds_ret (pd_call F_added hr (pda_cons (pd_var 3) (pda_cons (pd_var 4) (pda_cons (pd_var 1) (pda_cons (pd_var 2) pda_nil))))))) pdss_nil)
    (pdss_cons (pds_if (pdt_cmp od_eq (pd_var 0) (pd_globK G.g_SUB)) (pdss_one (pds_ret (pd_call F_subtracted hr (pda_cons (pd_var 3) (pda_cons (pd_var 4) (pda_cons (pd_var 1) (pda_cons (pd_var 2) pda_nil))))))) pdss_nil)
    (pdss_cons (pds_if (pdt_cmp od_eq (pd_var 0) (pd_globK G.g_MUL)) (pdss_one (pds_ret (pd_call F_multiplied hr (pda_cons (pd_var 3) (pda_cons (pd_var 4) (pda_cons (pd_var 1) (pda_cons (pd_var 2) pda_nil))))))) pdss_nil)
    (pdss_cons (pds_if (pdt_cmp od_eq (pd_var 0) (pd_globK G.g_DIV)) (pdss_one (pds_ret (pd_call F_divided hr (pda_cons (pd_var 3) (pda_cons (pd_var 4) (pda_cons (pd_var 1) (pda_cons (pd_var 2) pda_nil))))))) pdss_nil)
    (pdss_cons (pds_if (pdt_cmp od_eq (pd_var 0) (pd_globK G.g_SCALE)) (pdss_one (pds_ret (pd_call F_scaled hr (pda_cons (pd_var 3) (pda_cons (pd_var 4) (pda_cons (pd_var 2) pda_nil)))))) pdss_nil)
    (pdss_one (pds_ret (pd_call F_remainder hr (pda_cons (pd_var 3) (pda_cons (pd_var 4) (pda_cons (pd_cmp od_eq (pd_var 0) (pd_globK G.g_PREM1)) pda_nil))))))))))), rd_result_of_two⟩
theorem ok_told_of_two (G : Glo K mg cl) {f : Addr} {fd : FuncData} (F : Fun K "told_of_two" "told_of_two" st_told_of_two f fd) (hm : mg "told_of_two" = some (.ref f)) (F_compared : FnD P w K mg base cl 9 "compared" 2 C_compared) (F_compared_quietly : FnD P w K mg base cl 9 "compared_quietly" 2 C_compared_quietly) (F_no_number_told : FnD P w K mg base cl 9 "no_number_told" 1 C_no_number_told) (F_with_small_told : FnD P w K mg base cl 9 "with_small_told" 2 C_with_small_told) (F_result_of_two : FnD P w K mg base cl 9 "result_of_two" 5 C_result_of_two) : FnD P w K mg base cl 10 "told_of_two" 5 C_told_of_two :=
  have nd := sc_told_of_two.nd
  fnD F sc_told_of_two hm (F.binds fun _ _ _ _ _ _ us hl => by obtain ⟨_, _, _, _, _, rfl⟩ := len_us5 hl; rfl) fun cdv A outer s H E hr => ⟨T_told_of_two, (pdss_cons (pds_if (pdt_cmp od_eq (pd_var 0) (pd_globK G.g_COM)) (pdss_one (pds_ret (pd_call F_compared hr (pda_cons (pd_var 3) (pda_cons (pd_var 4) pda_nil))))) pdss_nil)
    (pdss_cons (pds_if (pdt_cmp od_eq (pd_var 0) (pd_globK G.g_UCOM)) (pdss_one (pds_ret (pd_call F_compared_quietly hr (pda_cons (pd_var 3) (pda_cons (pd_var 4) pda_nil))))) pdss_nil)
    (pdss_cons (pds_set 5 (pd_call F_no_number_told hr (pda_cons (pd_lst (pda_cons (pd_var 3) (pda_cons (pd_var 4) pda_nil))) pda_nil)) nd)
    (pdss_cons (pds_if (pdt_cmp od_isN (pd_var 5) pd_non) (pdss_one (pds_ret (pd_call F_with_small_told hr (pda_cons (pd_call F_result_of_two hr (pda_cons (pd_var 0) (pda_cons (pd_var 1) (pda_cons (pd_var 2) (pda_cons (pd_var 3) (pda_cons (pd_var 4) pda_nil)))))) (pda_cons (pd_lst (pda_cons (pd_var 3) (pda_cons (pd_var 4) pda_nil))) pda_nil))))) pdss_nil)
    (pdss_cons (pds_if (pdt_cmp od_in (pd_var 0) (pd_tup (pda_cons (pd_globK G.g_PREM) (pda_cons (pd_globK G.g_PREM1) pda_nil)))) (pdss_one (pds_ret (pd_lst (pda_cons (pd_ix (pd_var 5) pd_int) (pda_cons pd_int (pda_cons (pd_ix (pd_var 5) pd_int) pda_nil)))))) pdss_nil)
    (pdss_one (pds_ret (pd_var 5)))))))), rd_told_of_two⟩
theorem ok_two (G : Glo K mg cl) {f : Addr} {fd : FuncData} (F : Fun K "two" "two" st_two f fd) (hm : mg "two" = some (.ref f)) (F_too_wide : FnD P w K mg base cl 10 "too_wide" 1 C_too_wide) (F_told_of_two : FnD P w K mg base cl 10 "told_of_two" 5 C_told_of_two) (M_Number : MkD P w K mg base cl 9 "Number" 1 C_Number_init) : FnD P w K mg base cl 11 "two" 5 C_two :=
  have nd := sc_two.nd
  fnD F sc_two hm (F.binds fun _ _ _ _ _ _ us hl => by obtain ⟨_, _, _, _, _, rfl⟩ := len_us5 hl; rfl) fun cdv A outer s H E hr => ⟨T_two, (pdss_cons (pds_if (pdt_w (pdw_or (pdt_truth (pd_call F_too_wide hr (pda_cons (pd_var 3) pda_nil))) (pdw_or1 (pdt_truth (pd_call F_too_wide hr (pda_cons (pd_var 4) pda_nil)))))) (pdss_one (pds_ret (pd_lst (pda_cons (pd_globK G.g_BEYOND) pda_nil)))) pdss_nil)
    (pdss_one (pds_ret (pd_bin od_plus (pd_lst (pda_cons pd_int pda_nil)) (pd_call F_told_of_two hr (pda_cons (pd_var 0) (pda_cons (pd_var 1) (pda_cons (pd_var 2) (pda_cons (pd_make M_Number hr (pda_cons (pd_var 3) pda_nil)) (pda_cons (pd_make M_Number hr (pda_cons (pd_var 4) pda_nil)) pda_nil)))))))))), rd_two⟩
end
theorem ok_top_two {P : Program} {w : World} {K : Frag} {mg : Str → Option Value} {base : Heap} {cl : ClM} (G : Glo K mg cl) {f : Addr} {fd : FuncData} (F : Fun K "two" "two" st_two f fd) (F_too_wide : FnD P w K mg base cl 10 "too_wide" 1 C_too_wide) (F_told_of_two : FnD P w K mg base cl 10 "told_of_two" 5 C_told_of_two) (M_Number : MkD P w K mg base cl 9 "Number" 1 C_Number_init) : FnOk P w K mg base CX0 11 f fd ["op", "q", "r", "a", "b"] (spD K cl 5 C_two) :=
  have nd := sc_two.nd
  fnO F sc_two fun cdv A outer s H E hr => ⟨T_two, (pdss_cons (pds_if (pdt_w (pdw_or (pdt_truth (pd_call F_too_wide hr (pda_cons (pd_var 3) pda_nil))) (pdw_or1 (pdt_truth (pd_call F_too_wide hr (pda_cons (pd_var 4) pda_nil)))))) (pdss_one (pds_ret (pd_lst (pda_cons (pd_globK G.g_BEYOND) pda_nil)))) pdss_nil)
    (pdss_one (pds_ret (pd_bin od_plus (pd_lst (pda_cons pd_int pda_nil)) (pd_call F_told_of_two hr (pda_cons (pd_var 0) (pda_cons (pd_var 1) (pda_cons (pd_var 2) (pda_cons (pd_make M_Number hr (pda_cons (pd_var 3) pda_nil)) (pda_cons (pd_make M_Number hr (pda_cons (pd_var 4) pda_nil)) pda_nil)))))))))), rd_two⟩
theorem all_mk {P : Program} {w : World} {K : PySem.W.Frag} {h : Heap} {mg : Str → Option Value} {fa p_Format p_Number f_Format_init f_extended_format f_too_many_bits f_shown_bits f_joined f_shifted f_value_bits f_endless_bits f_kind_of f_is_small f_is_no_number f_exponent_of f_turned f_without_sign f_zero_bits f_infinite_bits f_finite_bits f_bits_by_value f_rounds_away f_rounded_multiple f_flags_of_loss f_overflowed f_rounded_small f_rounded_to f_rounded f_added_infinite f_signed_size f_sign_of_zero_sum f_added f_Number_init f_subtracted f_multiplied f_with_rest_marked f_divided f_precedence f_chosen f_no_number_told f_with_small_told f_order_bits f_rank f_compared f_compared_quietly f_scaled_without_end f_places_to_scale f_scaled f_rounds_to_next f_quotient_bits f_finished_remainder f_partial_remainder f_remainder f_too_wide f_result_of_two f_told_of_two f_two : Addr} (X : K.In h) (G : h.Ns mainGlobals mg) (hfa : mg "two" = some (.ref fa))
    {od_Format_init an_Format_init od_extended_format an_extended_format od_too_many_bits an_too_many_bits od_shown_bits an_shown_bits od_joined an_joined od_shifted an_shifted od_value_bits an_value_bits od_endless_bits an_endless_bits od_kind_of an_kind_of od_is_small an_is_small od_is_no_number an_is_no_number od_exponent_of an_exponent_of od_turned an_turned od_without_sign an_without_sign od_zero_bits an_zero_bits od_infinite_bits an_infinite_bits od_finite_bits an_finite_bits od_bits_by_value an_bits_by_value od_rounds_away an_rounds_away od_rounded_multiple an_rounded_multiple od_flags_of_loss an_flags_of_loss od_overflowed an_overflowed od_rounded_small an_rounded_small od_rounded_to an_rounded_to od_rounded an_rounded od_added_infinite an_added_infinite od_signed_size an_signed_size od_sign_of_zero_sum an_sign_of_zero_sum od_added an_added od_Number_init an_Number_init od_subtracted an_subtracted od_multiplied an_multiplied od_with_rest_marked an_with_rest_marked od_divided an_divided od_precedence an_precedence od_chosen an_chosen od_no_number_told an_no_number_told od_with_small_told an_with_small_told od_order_bits an_order_bits od_rank an_rank od_compared an_compared od_compared_quietly an_compared_quietly od_scaled_without_end an_scaled_without_end od_places_to_scale an_places_to_scale od_scaled an_scaled od_rounds_to_next an_rounds_to_next od_quotient_bits an_quotient_bits od_finished_remainder an_finished_remainder od_partial_remainder an_partial_remainder od_remainder an_remainder od_too_wide an_too_wide od_result_of_two an_result_of_two od_told_of_two an_told_of_two od_two an_two : Option Addr}
    {sl_Format_init sl_extended_format sl_too_many_bits sl_shown_bits sl_joined sl_shifted sl_value_bits sl_endless_bits sl_kind_of sl_is_small sl_is_no_number sl_exponent_of sl_turned sl_without_sign sl_zero_bits sl_infinite_bits sl_finite_bits sl_bits_by_value sl_rounds_away sl_rounded_multiple sl_flags_of_loss sl_overflowed sl_rounded_small sl_rounded_to sl_rounded sl_added_infinite sl_signed_size sl_sign_of_zero_sum sl_added sl_Number_init sl_subtracted sl_multiplied sl_with_rest_marked sl_divided sl_precedence sl_chosen sl_no_number_told sl_with_small_told sl_order_bits sl_rank sl_compared sl_compared_quietly sl_scaled_without_end sl_places_to_scale sl_scaled sl_rounds_to_next sl_quotient_bits sl_finished_remainder sl_partial_remainder sl_remainder sl_too_wide sl_result_of_two sl_told_of_two sl_two : Array (Option Value)}
    {t_HIGHEST_SIGNIFICAND_BIT t_ZERO t_NEARLY_SMALL t_SMALL t_ODD t_ALL_EXPONENT_BITS t_NORMAL t_INFINITE t_QUIET_BIT t_QUIET t_LOUD t_SIGN_PLACE t_NEAR t_DOWN t_UPWARD t_INEXACT t_UP t_CUT t_OVERFLOW t_UNDERFLOW t_INVALID t_EMPTY t_DIGITS t_ALL_SIGNIFICAND_BITS t_LEAST_EXPONENT t_DIVIDED_BY_ZERO t_EXTRA_PLACES t_SMALL_IN t_EQUAL t_ABOVE t_BELOW t_NOT_ORDERED t_FAR t_UNFINISHED t_ADD t_SUB t_MUL t_DIV t_SCALE t_PREM1 t_COM t_UCOM t_PREM t_BEYOND : Tok}
    {oc_Format_init kV_Format_init dc_Format_init pm_Format_init cd_Format_init ct_Format_init oc_extended_format kV_extended_format dc_extended_format pm_extended_format cd_extended_format ct_extended_format oc_too_many_bits kV_too_many_bits dc_too_many_bits pm_too_many_bits cd_too_many_bits ct_too_many_bits oc_shown_bits kV_shown_bits dc_shown_bits pm_shown_bits cd_shown_bits ct_shown_bits oc_joined kV_joined dc_joined pm_joined cd_joined ct_joined oc_shifted kV_shifted dc_shifted pm_shifted cd_shifted ct_shifted oc_value_bits kV_value_bits dc_value_bits pm_value_bits cd_value_bits ct_value_bits oc_endless_bits kV_endless_bits dc_endless_bits pm_endless_bits cd_endless_bits ct_endless_bits oc_kind_of kV_kind_of dc_kind_of pm_kind_of cd_kind_of ct_kind_of oc_is_small kV_is_small dc_is_small pm_is_small cd_is_small ct_is_small oc_is_no_number kV_is_no_number dc_is_no_number pm_is_no_number cd_is_no_number ct_is_no_number oc_exponent_of kV_exponent_of dc_exponent_of pm_exponent_of cd_exponent_of ct_exponent_of oc_turned kV_turned dc_turned pm_turned cd_turned ct_turned oc_without_sign kV_without_sign dc_without_sign pm_without_sign cd_without_sign ct_without_sign oc_zero_bits kV_zero_bits dc_zero_bits pm_zero_bits cd_zero_bits ct_zero_bits oc_infinite_bits kV_infinite_bits dc_infinite_bits pm_infinite_bits cd_infinite_bits ct_infinite_bits oc_finite_bits kV_finite_bits dc_finite_bits pm_finite_bits cd_finite_bits ct_finite_bits oc_bits_by_value kV_bits_by_value dc_bits_by_value pm_bits_by_value cd_bits_by_value ct_bits_by_value oc_rounds_away kV_rounds_away dc_rounds_away pm_rounds_away cd_rounds_away ct_rounds_away oc_rounded_multiple kV_rounded_multiple dc_rounded_multiple pm_rounded_multiple cd_rounded_multiple ct_rounded_multiple oc_flags_of_loss kV_flags_of_loss dc_flags_of_loss pm_flags_of_loss cd_flags_of_loss ct_flags_of_loss oc_overflowed kV_overflowed dc_overflowed pm_overflowed cd_overflowed ct_overflowed oc_rounded_small kV_rounded_small dc_rounded_small pm_rounded_small cd_rounded_small ct_rounded_small oc_rounded_to kV_rounded_to dc_rounded_to pm_rounded_to cd_rounded_to ct_rounded_to oc_rounded kV_rounded dc_rounded pm_rounded cd_rounded ct_rounded oc_added_infinite kV_added_infinite dc_added_infinite pm_added_infinite cd_added_infinite ct_added_infinite oc_signed_size kV_signed_size dc_signed_size pm_signed_size cd_signed_size ct_signed_size oc_sign_of_zero_sum kV_sign_of_zero_sum dc_sign_of_zero_sum pm_sign_of_zero_sum cd_sign_of_zero_sum ct_sign_of_zero_sum oc_added kV_added dc_added pm_added cd_added ct_added oc_Number_init kV_Number_init dc_Number_init pm_Number_init cd_Number_init ct_Number_init oc_subtracted kV_subtracted dc_subtracted pm_subtracted cd_subtracted ct_subtracted oc_multiplied kV_multiplied dc_multiplied pm_multiplied cd_multiplied ct_multiplied oc_with_rest_marked kV_with_rest_marked dc_with_rest_marked pm_with_rest_marked cd_with_rest_marked ct_with_rest_marked oc_divided kV_divided dc_divided pm_divided cd_divided ct_divided oc_precedence kV_precedence dc_precedence pm_precedence cd_precedence ct_precedence oc_chosen kV_chosen dc_chosen pm_chosen cd_chosen ct_chosen oc_no_number_told kV_no_number_told dc_no_number_told pm_no_number_told cd_no_number_told ct_no_number_told oc_with_small_told kV_with_small_told dc_with_small_told pm_with_small_told cd_with_small_told ct_with_small_told oc_order_bits kV_order_bits dc_order_bits pm_order_bits cd_order_bits ct_order_bits oc_rank kV_rank dc_rank pm_rank cd_rank ct_rank oc_compared kV_compared dc_compared pm_compared cd_compared ct_compared oc_compared_quietly kV_compared_quietly dc_compared_quietly pm_compared_quietly cd_compared_quietly ct_compared_quietly oc_scaled_without_end kV_scaled_without_end dc_scaled_without_end pm_scaled_without_end cd_scaled_without_end ct_scaled_without_end oc_places_to_scale kV_places_to_scale dc_places_to_scale pm_places_to_scale cd_places_to_scale ct_places_to_scale oc_scaled kV_scaled dc_scaled pm_scaled cd_scaled ct_scaled oc_rounds_to_next kV_rounds_to_next dc_rounds_to_next pm_rounds_to_next cd_rounds_to_next ct_rounds_to_next oc_quotient_bits kV_quotient_bits dc_quotient_bits pm_quotient_bits cd_quotient_bits ct_quotient_bits oc_finished_remainder kV_finished_remainder dc_finished_remainder pm_finished_remainder cd_finished_remainder ct_finished_remainder oc_partial_remainder kV_partial_remainder dc_partial_remainder pm_partial_remainder cd_partial_remainder ct_partial_remainder oc_remainder kV_remainder dc_remainder pm_remainder cd_remainder ct_remainder oc_too_wide kV_too_wide dc_too_wide pm_too_wide cd_too_wide ct_too_wide oc_result_of_two kV_result_of_two dc_result_of_two pm_result_of_two cd_result_of_two ct_result_of_two oc_told_of_two kV_told_of_two dc_told_of_two pm_told_of_two cd_told_of_two ct_told_of_two oc_two kV_two dc_two pm_two cd_two ct_two : Value}
    (a_Format : PySem.W.nsIn K mainGlobals "Format" = some (some (.ref p_Format)))
    (pg_Format : PySem.W.plainGet K p_Format Str.empty = true)
    (hd_Format : PySem.W.hasDictIn K p_Format = true)
    (po_Format : PySem.W.plainOver K p_Format = true)
    (sa_Format : PySem.W.findIn K (.ref p_Format) "__setattr__" = some (some (.builtin "object.__setattr__")))
    (mk_Format : PySem.W.makesIn K p_Format = true)
    (kc_Format : PySem.W.keepIn K (.ref p_Format) = true)
    (a_Number : PySem.W.nsIn K mainGlobals "Number" = some (some (.ref p_Number)))
    (pg_Number : PySem.W.plainGet K p_Number Str.empty = true)
    (hd_Number : PySem.W.hasDictIn K p_Number = true)
    (po_Number : PySem.W.plainOver K p_Number = true)
    (sa_Number : PySem.W.findIn K (.ref p_Number) "__setattr__" = some (some (.builtin "object.__setattr__")))
    (mk_Number : PySem.W.makesIn K p_Number = true)
    (kc_Number : PySem.W.keepIn K (.ref p_Number) = true)
    (n_all_exponent_bits : PySem.W.findIn K (.ref p_Format) "all_exponent_bits" = some none)
    (n_sign_place : PySem.W.findIn K (.ref p_Format) "sign_place" = some none)
    (n_significand_places : PySem.W.findIn K (.ref p_Format) "significand_places" = some none)
    (n_least_exponent : PySem.W.findIn K (.ref p_Format) "least_exponent" = some none)
    (n_greatest_exponent : PySem.W.findIn K (.ref p_Format) "greatest_exponent" = some none)
    (n_digits : PySem.W.findIn K (.ref p_Format) "digits" = some none)
    (n_kind : PySem.W.findIn K (.ref p_Number) "kind" = some none)
    (n_significand : PySem.W.findIn K (.ref p_Number) "significand" = some none)
    (n_power : PySem.W.findIn K (.ref p_Number) "power" = some none)
    (n_bits : PySem.W.findIn K (.ref p_Number) "bits" = some none)
    (n_sign : PySem.W.findIn K (.ref p_Number) "sign" = some none)
    (g_HIGHEST_SIGNIFICAND_BIT : PySem.W.nsIn K mainGlobals "HIGHEST_SIGNIFICAND_BIT" = some (some (.int 9223372036854775808 t_HIGHEST_SIGNIFICAND_BIT)))
    (g_ZERO : PySem.W.nsIn K mainGlobals "ZERO" = some (some (.str "zero" t_ZERO)))
    (g_NEARLY_SMALL : PySem.W.nsIn K mainGlobals "NEARLY_SMALL" = some (some (.str "nearly small" t_NEARLY_SMALL)))
    (g_SMALL : PySem.W.nsIn K mainGlobals "SMALL" = some (some (.str "small" t_SMALL)))
    (g_ODD : PySem.W.nsIn K mainGlobals "ODD" = some (some (.str "odd" t_ODD)))
    (g_ALL_EXPONENT_BITS : PySem.W.nsIn K mainGlobals "ALL_EXPONENT_BITS" = some (some (.int 32767 t_ALL_EXPONENT_BITS)))
    (g_NORMAL : PySem.W.nsIn K mainGlobals "NORMAL" = some (some (.str "normal" t_NORMAL)))
    (g_INFINITE : PySem.W.nsIn K mainGlobals "INFINITE" = some (some (.str "infinite" t_INFINITE)))
    (g_QUIET_BIT : PySem.W.nsIn K mainGlobals "QUIET_BIT" = some (some (.int 4611686018427387904 t_QUIET_BIT)))
    (g_QUIET : PySem.W.nsIn K mainGlobals "QUIET" = some (some (.str "quiet" t_QUIET)))
    (g_LOUD : PySem.W.nsIn K mainGlobals "LOUD" = some (some (.str "loud" t_LOUD)))
    (g_SIGN_PLACE : PySem.W.nsIn K mainGlobals "SIGN_PLACE" = some (some (.int 79 t_SIGN_PLACE)))
    (g_NEAR : PySem.W.nsIn K mainGlobals "NEAR" = some (some (.int 0 t_NEAR)))
    (g_DOWN : PySem.W.nsIn K mainGlobals "DOWN" = some (some (.int 1 t_DOWN)))
    (g_UPWARD : PySem.W.nsIn K mainGlobals "UPWARD" = some (some (.int 2 t_UPWARD)))
    (g_INEXACT : PySem.W.nsIn K mainGlobals "INEXACT" = some (some (.int 32 t_INEXACT)))
    (g_UP : PySem.W.nsIn K mainGlobals "UP" = some (some (.int 128 t_UP)))
    (g_CUT : PySem.W.nsIn K mainGlobals "CUT" = some (some (.int 3 t_CUT)))
    (g_OVERFLOW : PySem.W.nsIn K mainGlobals "OVERFLOW" = some (some (.int 8 t_OVERFLOW)))
    (g_UNDERFLOW : PySem.W.nsIn K mainGlobals "UNDERFLOW" = some (some (.int 16 t_UNDERFLOW)))
    (g_INVALID : PySem.W.nsIn K mainGlobals "INVALID" = some (some (.int 1 t_INVALID)))
    (g_EMPTY : PySem.W.nsIn K mainGlobals "EMPTY" = some (some (.int 1208921207928610747318272 t_EMPTY)))
    (g_DIGITS : PySem.W.nsIn K mainGlobals "DIGITS" = some (some (.int 64 t_DIGITS)))
    (g_ALL_SIGNIFICAND_BITS : PySem.W.nsIn K mainGlobals "ALL_SIGNIFICAND_BITS" = some (some (.int 18446744073709551615 t_ALL_SIGNIFICAND_BITS)))
    (g_LEAST_EXPONENT : PySem.W.nsIn K mainGlobals "LEAST_EXPONENT" = some (some (.int (-16382) t_LEAST_EXPONENT)))
    (g_DIVIDED_BY_ZERO : PySem.W.nsIn K mainGlobals "DIVIDED_BY_ZERO" = some (some (.int 4 t_DIVIDED_BY_ZERO)))
    (g_EXTRA_PLACES : PySem.W.nsIn K mainGlobals "EXTRA_PLACES" = some (some (.int 136 t_EXTRA_PLACES)))
    (g_SMALL_IN : PySem.W.nsIn K mainGlobals "SMALL_IN" = some (some (.int 2 t_SMALL_IN)))
    (g_EQUAL : PySem.W.nsIn K mainGlobals "EQUAL" = some (some (.int 8 t_EQUAL)))
    (g_ABOVE : PySem.W.nsIn K mainGlobals "ABOVE" = some (some (.int 0 t_ABOVE)))
    (g_BELOW : PySem.W.nsIn K mainGlobals "BELOW" = some (some (.int 1 t_BELOW)))
    (g_NOT_ORDERED : PySem.W.nsIn K mainGlobals "NOT_ORDERED" = some (some (.int 13 t_NOT_ORDERED)))
    (g_FAR : PySem.W.nsIn K mainGlobals "FAR" = some (some (.int 40000 t_FAR)))
    (g_UNFINISHED : PySem.W.nsIn K mainGlobals "UNFINISHED" = some (some (.int 4 t_UNFINISHED)))
    (g_ADD : PySem.W.nsIn K mainGlobals "ADD" = some (some (.int 0 t_ADD)))
    (g_SUB : PySem.W.nsIn K mainGlobals "SUB" = some (some (.int 1 t_SUB)))
    (g_MUL : PySem.W.nsIn K mainGlobals "MUL" = some (some (.int 2 t_MUL)))
    (g_DIV : PySem.W.nsIn K mainGlobals "DIV" = some (some (.int 3 t_DIV)))
    (g_SCALE : PySem.W.nsIn K mainGlobals "SCALE" = some (some (.int 6 t_SCALE)))
    (g_PREM1 : PySem.W.nsIn K mainGlobals "PREM1" = some (some (.int 5 t_PREM1)))
    (g_COM : PySem.W.nsIn K mainGlobals "COM" = some (some (.int 7 t_COM)))
    (g_UCOM : PySem.W.nsIn K mainGlobals "UCOM" = some (some (.int 8 t_UCOM)))
    (g_PREM : PySem.W.nsIn K mainGlobals "PREM" = some (some (.int 4 t_PREM)))
    (g_BEYOND : PySem.W.nsIn K mainGlobals "BEYOND" = some (some (.int (-1) t_BEYOND)))
    (b_max : PySem.W.nsIn K mainGlobals "max" = some none)
    (b_min : PySem.W.nsIn K mainGlobals "min" = some none)
    (b_abs : PySem.W.nsIn K mainGlobals "abs" = some none)
    (b_any : PySem.W.nsIn K mainGlobals "any" = some none)
    (a_Format_init : PySem.W.findIn K (.ref p_Format) "__init__" = some (some (.ref f_Format_init)))
    (i_Format_init : PySem.W.isFn K (.ref f_Format_init) = true)
    (l_Format_init : K.lookup f_Format_init = some ⟨oc_Format_init, od_Format_init, .func (PySem.W.fnOf "__init__" "Format.__init__" (defArgs st_Format_init) (defBody st_Format_init) (defScope st_Format_init) .none kV_Format_init dc_Format_init pm_Format_init an_Format_init cd_Format_init ct_Format_init), sl_Format_init⟩)
    (c_Format_init : PySem.W.codeIn K cd_Format_init "Format.__init__" = true)
    (k_Format_init : PySem.W.keepIn K (.ref f_Format_init) = true)
    (a_extended_format : PySem.W.nsIn K mainGlobals "extended_format" = some (some (.ref f_extended_format)))
    (l_extended_format : K.lookup f_extended_format = some ⟨oc_extended_format, od_extended_format, .func (PySem.W.fnOf "extended_format" "extended_format" (defArgs st_extended_format) (defBody st_extended_format) (defScope st_extended_format) .none kV_extended_format dc_extended_format pm_extended_format an_extended_format cd_extended_format ct_extended_format), sl_extended_format⟩)
    (c_extended_format : PySem.W.codeIn K cd_extended_format "extended_format" = true)
    (k_extended_format : PySem.W.keepIn K (.ref f_extended_format) = true)
    (a_too_many_bits : PySem.W.nsIn K mainGlobals "too_many_bits" = some (some (.ref f_too_many_bits)))
    (l_too_many_bits : K.lookup f_too_many_bits = some ⟨oc_too_many_bits, od_too_many_bits, .func (PySem.W.fnOf "too_many_bits" "too_many_bits" (defArgs st_too_many_bits) (defBody st_too_many_bits) (defScope st_too_many_bits) .none kV_too_many_bits dc_too_many_bits pm_too_many_bits an_too_many_bits cd_too_many_bits ct_too_many_bits), sl_too_many_bits⟩)
    (c_too_many_bits : PySem.W.codeIn K cd_too_many_bits "too_many_bits" = true)
    (k_too_many_bits : PySem.W.keepIn K (.ref f_too_many_bits) = true)
    (a_shown_bits : PySem.W.nsIn K mainGlobals "shown_bits" = some (some (.ref f_shown_bits)))
    (l_shown_bits : K.lookup f_shown_bits = some ⟨oc_shown_bits, od_shown_bits, .func (PySem.W.fnOf "shown_bits" "shown_bits" (defArgs st_shown_bits) (defBody st_shown_bits) (defScope st_shown_bits) .none kV_shown_bits dc_shown_bits pm_shown_bits an_shown_bits cd_shown_bits ct_shown_bits), sl_shown_bits⟩)
    (c_shown_bits : PySem.W.codeIn K cd_shown_bits "shown_bits" = true)
    (k_shown_bits : PySem.W.keepIn K (.ref f_shown_bits) = true)
    (a_joined : PySem.W.nsIn K mainGlobals "joined" = some (some (.ref f_joined)))
    (l_joined : K.lookup f_joined = some ⟨oc_joined, od_joined, .func (PySem.W.fnOf "joined" "joined" (defArgs st_joined) (defBody st_joined) (defScope st_joined) .none kV_joined dc_joined pm_joined an_joined cd_joined ct_joined), sl_joined⟩)
    (c_joined : PySem.W.codeIn K cd_joined "joined" = true)
    (k_joined : PySem.W.keepIn K (.ref f_joined) = true)
    (a_shifted : PySem.W.nsIn K mainGlobals "shifted" = some (some (.ref f_shifted)))
    (l_shifted : K.lookup f_shifted = some ⟨oc_shifted, od_shifted, .func (PySem.W.fnOf "shifted" "shifted" (defArgs st_shifted) (defBody st_shifted) (defScope st_shifted) .none kV_shifted dc_shifted pm_shifted an_shifted cd_shifted ct_shifted), sl_shifted⟩)
    (c_shifted : PySem.W.codeIn K cd_shifted "shifted" = true)
    (k_shifted : PySem.W.keepIn K (.ref f_shifted) = true)
    (a_value_bits : PySem.W.nsIn K mainGlobals "value_bits" = some (some (.ref f_value_bits)))
    (l_value_bits : K.lookup f_value_bits = some ⟨oc_value_bits, od_value_bits, .func (PySem.W.fnOf "value_bits" "value_bits" (defArgs st_value_bits) (defBody st_value_bits) (defScope st_value_bits) .none kV_value_bits dc_value_bits pm_value_bits an_value_bits cd_value_bits ct_value_bits), sl_value_bits⟩)
    (c_value_bits : PySem.W.codeIn K cd_value_bits "value_bits" = true)
    (k_value_bits : PySem.W.keepIn K (.ref f_value_bits) = true)
    (a_endless_bits : PySem.W.nsIn K mainGlobals "endless_bits" = some (some (.ref f_endless_bits)))
    (l_endless_bits : K.lookup f_endless_bits = some ⟨oc_endless_bits, od_endless_bits, .func (PySem.W.fnOf "endless_bits" "endless_bits" (defArgs st_endless_bits) (defBody st_endless_bits) (defScope st_endless_bits) .none kV_endless_bits dc_endless_bits pm_endless_bits an_endless_bits cd_endless_bits ct_endless_bits), sl_endless_bits⟩)
    (c_endless_bits : PySem.W.codeIn K cd_endless_bits "endless_bits" = true)
    (k_endless_bits : PySem.W.keepIn K (.ref f_endless_bits) = true)
    (a_kind_of : PySem.W.nsIn K mainGlobals "kind_of" = some (some (.ref f_kind_of)))
    (l_kind_of : K.lookup f_kind_of = some ⟨oc_kind_of, od_kind_of, .func (PySem.W.fnOf "kind_of" "kind_of" (defArgs st_kind_of) (defBody st_kind_of) (defScope st_kind_of) .none kV_kind_of dc_kind_of pm_kind_of an_kind_of cd_kind_of ct_kind_of), sl_kind_of⟩)
    (c_kind_of : PySem.W.codeIn K cd_kind_of "kind_of" = true)
    (k_kind_of : PySem.W.keepIn K (.ref f_kind_of) = true)
    (a_is_small : PySem.W.nsIn K mainGlobals "is_small" = some (some (.ref f_is_small)))
    (l_is_small : K.lookup f_is_small = some ⟨oc_is_small, od_is_small, .func (PySem.W.fnOf "is_small" "is_small" (defArgs st_is_small) (defBody st_is_small) (defScope st_is_small) .none kV_is_small dc_is_small pm_is_small an_is_small cd_is_small ct_is_small), sl_is_small⟩)
    (c_is_small : PySem.W.codeIn K cd_is_small "is_small" = true)
    (k_is_small : PySem.W.keepIn K (.ref f_is_small) = true)
    (a_is_no_number : PySem.W.nsIn K mainGlobals "is_no_number" = some (some (.ref f_is_no_number)))
    (l_is_no_number : K.lookup f_is_no_number = some ⟨oc_is_no_number, od_is_no_number, .func (PySem.W.fnOf "is_no_number" "is_no_number" (defArgs st_is_no_number) (defBody st_is_no_number) (defScope st_is_no_number) .none kV_is_no_number dc_is_no_number pm_is_no_number an_is_no_number cd_is_no_number ct_is_no_number), sl_is_no_number⟩)
    (c_is_no_number : PySem.W.codeIn K cd_is_no_number "is_no_number" = true)
    (k_is_no_number : PySem.W.keepIn K (.ref f_is_no_number) = true)
    (a_exponent_of : PySem.W.nsIn K mainGlobals "exponent_of" = some (some (.ref f_exponent_of)))
    (l_exponent_of : K.lookup f_exponent_of = some ⟨oc_exponent_of, od_exponent_of, .func (PySem.W.fnOf "exponent_of" "exponent_of" (defArgs st_exponent_of) (defBody st_exponent_of) (defScope st_exponent_of) .none kV_exponent_of dc_exponent_of pm_exponent_of an_exponent_of cd_exponent_of ct_exponent_of), sl_exponent_of⟩)
    (c_exponent_of : PySem.W.codeIn K cd_exponent_of "exponent_of" = true)
    (k_exponent_of : PySem.W.keepIn K (.ref f_exponent_of) = true)
    (a_turned : PySem.W.nsIn K mainGlobals "turned" = some (some (.ref f_turned)))
    (l_turned : K.lookup f_turned = some ⟨oc_turned, od_turned, .func (PySem.W.fnOf "turned" "turned" (defArgs st_turned) (defBody st_turned) (defScope st_turned) .none kV_turned dc_turned pm_turned an_turned cd_turned ct_turned), sl_turned⟩)
    (c_turned : PySem.W.codeIn K cd_turned "turned" = true)
    (k_turned : PySem.W.keepIn K (.ref f_turned) = true)
    (a_without_sign : PySem.W.nsIn K mainGlobals "without_sign" = some (some (.ref f_without_sign)))
    (l_without_sign : K.lookup f_without_sign = some ⟨oc_without_sign, od_without_sign, .func (PySem.W.fnOf "without_sign" "without_sign" (defArgs st_without_sign) (defBody st_without_sign) (defScope st_without_sign) .none kV_without_sign dc_without_sign pm_without_sign an_without_sign cd_without_sign ct_without_sign), sl_without_sign⟩)
    (c_without_sign : PySem.W.codeIn K cd_without_sign "without_sign" = true)
    (k_without_sign : PySem.W.keepIn K (.ref f_without_sign) = true)
    (a_zero_bits : PySem.W.nsIn K mainGlobals "zero_bits" = some (some (.ref f_zero_bits)))
    (l_zero_bits : K.lookup f_zero_bits = some ⟨oc_zero_bits, od_zero_bits, .func (PySem.W.fnOf "zero_bits" "zero_bits" (defArgs st_zero_bits) (defBody st_zero_bits) (defScope st_zero_bits) .none kV_zero_bits dc_zero_bits pm_zero_bits an_zero_bits cd_zero_bits ct_zero_bits), sl_zero_bits⟩)
    (c_zero_bits : PySem.W.codeIn K cd_zero_bits "zero_bits" = true)
    (k_zero_bits : PySem.W.keepIn K (.ref f_zero_bits) = true)
    (a_infinite_bits : PySem.W.nsIn K mainGlobals "infinite_bits" = some (some (.ref f_infinite_bits)))
    (l_infinite_bits : K.lookup f_infinite_bits = some ⟨oc_infinite_bits, od_infinite_bits, .func (PySem.W.fnOf "infinite_bits" "infinite_bits" (defArgs st_infinite_bits) (defBody st_infinite_bits) (defScope st_infinite_bits) .none kV_infinite_bits dc_infinite_bits pm_infinite_bits an_infinite_bits cd_infinite_bits ct_infinite_bits), sl_infinite_bits⟩)
    (c_infinite_bits : PySem.W.codeIn K cd_infinite_bits "infinite_bits" = true)
    (k_infinite_bits : PySem.W.keepIn K (.ref f_infinite_bits) = true)
    (a_finite_bits : PySem.W.nsIn K mainGlobals "finite_bits" = some (some (.ref f_finite_bits)))
    (l_finite_bits : K.lookup f_finite_bits = some ⟨oc_finite_bits, od_finite_bits, .func (PySem.W.fnOf "finite_bits" "finite_bits" (defArgs st_finite_bits) (defBody st_finite_bits) (defScope st_finite_bits) .none kV_finite_bits dc_finite_bits pm_finite_bits an_finite_bits cd_finite_bits ct_finite_bits), sl_finite_bits⟩)
    (c_finite_bits : PySem.W.codeIn K cd_finite_bits "finite_bits" = true)
    (k_finite_bits : PySem.W.keepIn K (.ref f_finite_bits) = true)
    (a_bits_by_value : PySem.W.nsIn K mainGlobals "bits_by_value" = some (some (.ref f_bits_by_value)))
    (l_bits_by_value : K.lookup f_bits_by_value = some ⟨oc_bits_by_value, od_bits_by_value, .func (PySem.W.fnOf "bits_by_value" "bits_by_value" (defArgs st_bits_by_value) (defBody st_bits_by_value) (defScope st_bits_by_value) .none kV_bits_by_value dc_bits_by_value pm_bits_by_value an_bits_by_value cd_bits_by_value ct_bits_by_value), sl_bits_by_value⟩)
    (c_bits_by_value : PySem.W.codeIn K cd_bits_by_value "bits_by_value" = true)
    (k_bits_by_value : PySem.W.keepIn K (.ref f_bits_by_value) = true)
    (a_rounds_away : PySem.W.nsIn K mainGlobals "rounds_away" = some (some (.ref f_rounds_away)))
    (l_rounds_away : K.lookup f_rounds_away = some ⟨oc_rounds_away, od_rounds_away, .func (PySem.W.fnOf "rounds_away" "rounds_away" (defArgs st_rounds_away) (defBody st_rounds_away) (defScope st_rounds_away) .none kV_rounds_away dc_rounds_away pm_rounds_away an_rounds_away cd_rounds_away ct_rounds_away), sl_rounds_away⟩)
    (c_rounds_away : PySem.W.codeIn K cd_rounds_away "rounds_away" = true)
    (k_rounds_away : PySem.W.keepIn K (.ref f_rounds_away) = true)
    (a_rounded_multiple : PySem.W.nsIn K mainGlobals "rounded_multiple" = some (some (.ref f_rounded_multiple)))
    (l_rounded_multiple : K.lookup f_rounded_multiple = some ⟨oc_rounded_multiple, od_rounded_multiple, .func (PySem.W.fnOf "rounded_multiple" "rounded_multiple" (defArgs st_rounded_multiple) (defBody st_rounded_multiple) (defScope st_rounded_multiple) .none kV_rounded_multiple dc_rounded_multiple pm_rounded_multiple an_rounded_multiple cd_rounded_multiple ct_rounded_multiple), sl_rounded_multiple⟩)
    (c_rounded_multiple : PySem.W.codeIn K cd_rounded_multiple "rounded_multiple" = true)
    (k_rounded_multiple : PySem.W.keepIn K (.ref f_rounded_multiple) = true)
    (a_flags_of_loss : PySem.W.nsIn K mainGlobals "flags_of_loss" = some (some (.ref f_flags_of_loss)))
    (l_flags_of_loss : K.lookup f_flags_of_loss = some ⟨oc_flags_of_loss, od_flags_of_loss, .func (PySem.W.fnOf "flags_of_loss" "flags_of_loss" (defArgs st_flags_of_loss) (defBody st_flags_of_loss) (defScope st_flags_of_loss) .none kV_flags_of_loss dc_flags_of_loss pm_flags_of_loss an_flags_of_loss cd_flags_of_loss ct_flags_of_loss), sl_flags_of_loss⟩)
    (c_flags_of_loss : PySem.W.codeIn K cd_flags_of_loss "flags_of_loss" = true)
    (k_flags_of_loss : PySem.W.keepIn K (.ref f_flags_of_loss) = true)
    (a_overflowed : PySem.W.nsIn K mainGlobals "overflowed" = some (some (.ref f_overflowed)))
    (l_overflowed : K.lookup f_overflowed = some ⟨oc_overflowed, od_overflowed, .func (PySem.W.fnOf "overflowed" "overflowed" (defArgs st_overflowed) (defBody st_overflowed) (defScope st_overflowed) .none kV_overflowed dc_overflowed pm_overflowed an_overflowed cd_overflowed ct_overflowed), sl_overflowed⟩)
    (c_overflowed : PySem.W.codeIn K cd_overflowed "overflowed" = true)
    (k_overflowed : PySem.W.keepIn K (.ref f_overflowed) = true)
    (a_rounded_small : PySem.W.nsIn K mainGlobals "rounded_small" = some (some (.ref f_rounded_small)))
    (l_rounded_small : K.lookup f_rounded_small = some ⟨oc_rounded_small, od_rounded_small, .func (PySem.W.fnOf "rounded_small" "rounded_small" (defArgs st_rounded_small) (defBody st_rounded_small) (defScope st_rounded_small) .none kV_rounded_small dc_rounded_small pm_rounded_small an_rounded_small cd_rounded_small ct_rounded_small), sl_rounded_small⟩)
    (c_rounded_small : PySem.W.codeIn K cd_rounded_small "rounded_small" = true)
    (k_rounded_small : PySem.W.keepIn K (.ref f_rounded_small) = true)
    (a_rounded_to : PySem.W.nsIn K mainGlobals "rounded_to" = some (some (.ref f_rounded_to)))
    (l_rounded_to : K.lookup f_rounded_to = some ⟨oc_rounded_to, od_rounded_to, .func (PySem.W.fnOf "rounded_to" "rounded_to" (defArgs st_rounded_to) (defBody st_rounded_to) (defScope st_rounded_to) .none kV_rounded_to dc_rounded_to pm_rounded_to an_rounded_to cd_rounded_to ct_rounded_to), sl_rounded_to⟩)
    (c_rounded_to : PySem.W.codeIn K cd_rounded_to "rounded_to" = true)
    (k_rounded_to : PySem.W.keepIn K (.ref f_rounded_to) = true)
    (a_rounded : PySem.W.nsIn K mainGlobals "rounded" = some (some (.ref f_rounded)))
    (l_rounded : K.lookup f_rounded = some ⟨oc_rounded, od_rounded, .func (PySem.W.fnOf "rounded" "rounded" (defArgs st_rounded) (defBody st_rounded) (defScope st_rounded) .none kV_rounded dc_rounded pm_rounded an_rounded cd_rounded ct_rounded), sl_rounded⟩)
    (c_rounded : PySem.W.codeIn K cd_rounded "rounded" = true)
    (k_rounded : PySem.W.keepIn K (.ref f_rounded) = true)
    (a_added_infinite : PySem.W.nsIn K mainGlobals "added_infinite" = some (some (.ref f_added_infinite)))
    (l_added_infinite : K.lookup f_added_infinite = some ⟨oc_added_infinite, od_added_infinite, .func (PySem.W.fnOf "added_infinite" "added_infinite" (defArgs st_added_infinite) (defBody st_added_infinite) (defScope st_added_infinite) .none kV_added_infinite dc_added_infinite pm_added_infinite an_added_infinite cd_added_infinite ct_added_infinite), sl_added_infinite⟩)
    (c_added_infinite : PySem.W.codeIn K cd_added_infinite "added_infinite" = true)
    (k_added_infinite : PySem.W.keepIn K (.ref f_added_infinite) = true)
    (a_signed_size : PySem.W.nsIn K mainGlobals "signed_size" = some (some (.ref f_signed_size)))
    (l_signed_size : K.lookup f_signed_size = some ⟨oc_signed_size, od_signed_size, .func (PySem.W.fnOf "signed_size" "signed_size" (defArgs st_signed_size) (defBody st_signed_size) (defScope st_signed_size) .none kV_signed_size dc_signed_size pm_signed_size an_signed_size cd_signed_size ct_signed_size), sl_signed_size⟩)
    (c_signed_size : PySem.W.codeIn K cd_signed_size "signed_size" = true)
    (k_signed_size : PySem.W.keepIn K (.ref f_signed_size) = true)
    (a_sign_of_zero_sum : PySem.W.nsIn K mainGlobals "sign_of_zero_sum" = some (some (.ref f_sign_of_zero_sum)))
    (l_sign_of_zero_sum : K.lookup f_sign_of_zero_sum = some ⟨oc_sign_of_zero_sum, od_sign_of_zero_sum, .func (PySem.W.fnOf "sign_of_zero_sum" "sign_of_zero_sum" (defArgs st_sign_of_zero_sum) (defBody st_sign_of_zero_sum) (defScope st_sign_of_zero_sum) .none kV_sign_of_zero_sum dc_sign_of_zero_sum pm_sign_of_zero_sum an_sign_of_zero_sum cd_sign_of_zero_sum ct_sign_of_zero_sum), sl_sign_of_zero_sum⟩)
    (c_sign_of_zero_sum : PySem.W.codeIn K cd_sign_of_zero_sum "sign_of_zero_sum" = true)
    (k_sign_of_zero_sum : PySem.W.keepIn K (.ref f_sign_of_zero_sum) = true)
    (a_added : PySem.W.nsIn K mainGlobals "added" = some (some (.ref f_added)))
    (l_added : K.lookup f_added = some ⟨oc_added, od_added, .func (PySem.W.fnOf "added" "added" (defArgs st_added) (defBody st_added) (defScope st_added) .none kV_added dc_added pm_added an_added cd_added ct_added), sl_added⟩)
    (c_added : PySem.W.codeIn K cd_added "added" = true)
    (k_added : PySem.W.keepIn K (.ref f_added) = true)
    (a_Number_init : PySem.W.findIn K (.ref p_Number) "__init__" = some (some (.ref f_Number_init)))
    (i_Number_init : PySem.W.isFn K (.ref f_Number_init) = true)
    (l_Number_init : K.lookup f_Number_init = some ⟨oc_Number_init, od_Number_init, .func (PySem.W.fnOf "__init__" "Number.__init__" (defArgs st_Number_init) (defBody st_Number_init) (defScope st_Number_init) .none kV_Number_init dc_Number_init pm_Number_init an_Number_init cd_Number_init ct_Number_init), sl_Number_init⟩)
    (c_Number_init : PySem.W.codeIn K cd_Number_init "Number.__init__" = true)
    (k_Number_init : PySem.W.keepIn K (.ref f_Number_init) = true)
    (a_subtracted : PySem.W.nsIn K mainGlobals "subtracted" = some (some (.ref f_subtracted)))
    (l_subtracted : K.lookup f_subtracted = some ⟨oc_subtracted, od_subtracted, .func (PySem.W.fnOf "subtracted" "subtracted" (defArgs st_subtracted) (defBody st_subtracted) (defScope st_subtracted) .none kV_subtracted dc_subtracted pm_subtracted an_subtracted cd_subtracted ct_subtracted), sl_subtracted⟩)
    (c_subtracted : PySem.W.codeIn K cd_subtracted "subtracted" = true)
    (k_subtracted : PySem.W.keepIn K (.ref f_subtracted) = true)
    (a_multiplied : PySem.W.nsIn K mainGlobals "multiplied" = some (some (.ref f_multiplied)))
    (l_multiplied : K.lookup f_multiplied = some ⟨oc_multiplied, od_multiplied, .func (PySem.W.fnOf "multiplied" "multiplied" (defArgs st_multiplied) (defBody st_multiplied) (defScope st_multiplied) .none kV_multiplied dc_multiplied pm_multiplied an_multiplied cd_multiplied ct_multiplied), sl_multiplied⟩)
    (c_multiplied : PySem.W.codeIn K cd_multiplied "multiplied" = true)
    (k_multiplied : PySem.W.keepIn K (.ref f_multiplied) = true)
    (a_with_rest_marked : PySem.W.nsIn K mainGlobals "with_rest_marked" = some (some (.ref f_with_rest_marked)))
    (l_with_rest_marked : K.lookup f_with_rest_marked = some ⟨oc_with_rest_marked, od_with_rest_marked, .func (PySem.W.fnOf "with_rest_marked" "with_rest_marked" (defArgs st_with_rest_marked) (defBody st_with_rest_marked) (defScope st_with_rest_marked) .none kV_with_rest_marked dc_with_rest_marked pm_with_rest_marked an_with_rest_marked cd_with_rest_marked ct_with_rest_marked), sl_with_rest_marked⟩)
    (c_with_rest_marked : PySem.W.codeIn K cd_with_rest_marked "with_rest_marked" = true)
    (k_with_rest_marked : PySem.W.keepIn K (.ref f_with_rest_marked) = true)
    (a_divided : PySem.W.nsIn K mainGlobals "divided" = some (some (.ref f_divided)))
    (l_divided : K.lookup f_divided = some ⟨oc_divided, od_divided, .func (PySem.W.fnOf "divided" "divided" (defArgs st_divided) (defBody st_divided) (defScope st_divided) .none kV_divided dc_divided pm_divided an_divided cd_divided ct_divided), sl_divided⟩)
    (c_divided : PySem.W.codeIn K cd_divided "divided" = true)
    (k_divided : PySem.W.keepIn K (.ref f_divided) = true)
    (a_precedence : PySem.W.nsIn K mainGlobals "precedence" = some (some (.ref f_precedence)))
    (l_precedence : K.lookup f_precedence = some ⟨oc_precedence, od_precedence, .func (PySem.W.fnOf "precedence" "precedence" (defArgs st_precedence) (defBody st_precedence) (defScope st_precedence) .none kV_precedence dc_precedence pm_precedence an_precedence cd_precedence ct_precedence), sl_precedence⟩)
    (c_precedence : PySem.W.codeIn K cd_precedence "precedence" = true)
    (k_precedence : PySem.W.keepIn K (.ref f_precedence) = true)
    (a_chosen : PySem.W.nsIn K mainGlobals "chosen" = some (some (.ref f_chosen)))
    (l_chosen : K.lookup f_chosen = some ⟨oc_chosen, od_chosen, .func (PySem.W.fnOf "chosen" "chosen" (defArgs st_chosen) (defBody st_chosen) (defScope st_chosen) .none kV_chosen dc_chosen pm_chosen an_chosen cd_chosen ct_chosen), sl_chosen⟩)
    (c_chosen : PySem.W.codeIn K cd_chosen "chosen" = true)
    (k_chosen : PySem.W.keepIn K (.ref f_chosen) = true)
    (a_no_number_told : PySem.W.nsIn K mainGlobals "no_number_told" = some (some (.ref f_no_number_told)))
    (l_no_number_told : K.lookup f_no_number_told = some ⟨oc_no_number_told, od_no_number_told, .func (PySem.W.fnOf "no_number_told" "no_number_told" (defArgs st_no_number_told) (defBody st_no_number_told) (defScope st_no_number_told) .none kV_no_number_told dc_no_number_told pm_no_number_told an_no_number_told cd_no_number_told ct_no_number_told), sl_no_number_told⟩)
    (c_no_number_told : PySem.W.codeIn K cd_no_number_told "no_number_told" = true)
    (k_no_number_told : PySem.W.keepIn K (.ref f_no_number_told) = true)
    (a_with_small_told : PySem.W.nsIn K mainGlobals "with_small_told" = some (some (.ref f_with_small_told)))
    (l_with_small_told : K.lookup f_with_small_told = some ⟨oc_with_small_told, od_with_small_told, .func (PySem.W.fnOf "with_small_told" "with_small_told" (defArgs st_with_small_told) (defBody st_with_small_told) (defScope st_with_small_told) .none kV_with_small_told dc_with_small_told pm_with_small_told an_with_small_told cd_with_small_told ct_with_small_told), sl_with_small_told⟩)
    (c_with_small_told : PySem.W.codeIn K cd_with_small_told "with_small_told" = true)
    (k_with_small_told : PySem.W.keepIn K (.ref f_with_small_told) = true)
    (a_order_bits : PySem.W.nsIn K mainGlobals "order_bits" = some (some (.ref f_order_bits)))
    (l_order_bits : K.lookup f_order_bits = some ⟨oc_order_bits, od_order_bits, .func (PySem.W.fnOf "order_bits" "order_bits" (defArgs st_order_bits) (defBody st_order_bits) (defScope st_order_bits) .none kV_order_bits dc_order_bits pm_order_bits an_order_bits cd_order_bits ct_order_bits), sl_order_bits⟩)
    (c_order_bits : PySem.W.codeIn K cd_order_bits "order_bits" = true)
    (k_order_bits : PySem.W.keepIn K (.ref f_order_bits) = true)
    (a_rank : PySem.W.nsIn K mainGlobals "rank" = some (some (.ref f_rank)))
    (l_rank : K.lookup f_rank = some ⟨oc_rank, od_rank, .func (PySem.W.fnOf "rank" "rank" (defArgs st_rank) (defBody st_rank) (defScope st_rank) .none kV_rank dc_rank pm_rank an_rank cd_rank ct_rank), sl_rank⟩)
    (c_rank : PySem.W.codeIn K cd_rank "rank" = true)
    (k_rank : PySem.W.keepIn K (.ref f_rank) = true)
    (a_compared : PySem.W.nsIn K mainGlobals "compared" = some (some (.ref f_compared)))
    (l_compared : K.lookup f_compared = some ⟨oc_compared, od_compared, .func (PySem.W.fnOf "compared" "compared" (defArgs st_compared) (defBody st_compared) (defScope st_compared) .none kV_compared dc_compared pm_compared an_compared cd_compared ct_compared), sl_compared⟩)
    (c_compared : PySem.W.codeIn K cd_compared "compared" = true)
    (k_compared : PySem.W.keepIn K (.ref f_compared) = true)
    (a_compared_quietly : PySem.W.nsIn K mainGlobals "compared_quietly" = some (some (.ref f_compared_quietly)))
    (l_compared_quietly : K.lookup f_compared_quietly = some ⟨oc_compared_quietly, od_compared_quietly, .func (PySem.W.fnOf "compared_quietly" "compared_quietly" (defArgs st_compared_quietly) (defBody st_compared_quietly) (defScope st_compared_quietly) .none kV_compared_quietly dc_compared_quietly pm_compared_quietly an_compared_quietly cd_compared_quietly ct_compared_quietly), sl_compared_quietly⟩)
    (c_compared_quietly : PySem.W.codeIn K cd_compared_quietly "compared_quietly" = true)
    (k_compared_quietly : PySem.W.keepIn K (.ref f_compared_quietly) = true)
    (a_scaled_without_end : PySem.W.nsIn K mainGlobals "scaled_without_end" = some (some (.ref f_scaled_without_end)))
    (l_scaled_without_end : K.lookup f_scaled_without_end = some ⟨oc_scaled_without_end, od_scaled_without_end, .func (PySem.W.fnOf "scaled_without_end" "scaled_without_end" (defArgs st_scaled_without_end) (defBody st_scaled_without_end) (defScope st_scaled_without_end) .none kV_scaled_without_end dc_scaled_without_end pm_scaled_without_end an_scaled_without_end cd_scaled_without_end ct_scaled_without_end), sl_scaled_without_end⟩)
    (c_scaled_without_end : PySem.W.codeIn K cd_scaled_without_end "scaled_without_end" = true)
    (k_scaled_without_end : PySem.W.keepIn K (.ref f_scaled_without_end) = true)
    (a_places_to_scale : PySem.W.nsIn K mainGlobals "places_to_scale" = some (some (.ref f_places_to_scale)))
    (l_places_to_scale : K.lookup f_places_to_scale = some ⟨oc_places_to_scale, od_places_to_scale, .func (PySem.W.fnOf "places_to_scale" "places_to_scale" (defArgs st_places_to_scale) (defBody st_places_to_scale) (defScope st_places_to_scale) .none kV_places_to_scale dc_places_to_scale pm_places_to_scale an_places_to_scale cd_places_to_scale ct_places_to_scale), sl_places_to_scale⟩)
    (c_places_to_scale : PySem.W.codeIn K cd_places_to_scale "places_to_scale" = true)
    (k_places_to_scale : PySem.W.keepIn K (.ref f_places_to_scale) = true)
    (a_scaled : PySem.W.nsIn K mainGlobals "scaled" = some (some (.ref f_scaled)))
    (l_scaled : K.lookup f_scaled = some ⟨oc_scaled, od_scaled, .func (PySem.W.fnOf "scaled" "scaled" (defArgs st_scaled) (defBody st_scaled) (defScope st_scaled) .none kV_scaled dc_scaled pm_scaled an_scaled cd_scaled ct_scaled), sl_scaled⟩)
    (c_scaled : PySem.W.codeIn K cd_scaled "scaled" = true)
    (k_scaled : PySem.W.keepIn K (.ref f_scaled) = true)
    (a_rounds_to_next : PySem.W.nsIn K mainGlobals "rounds_to_next" = some (some (.ref f_rounds_to_next)))
    (l_rounds_to_next : K.lookup f_rounds_to_next = some ⟨oc_rounds_to_next, od_rounds_to_next, .func (PySem.W.fnOf "rounds_to_next" "rounds_to_next" (defArgs st_rounds_to_next) (defBody st_rounds_to_next) (defScope st_rounds_to_next) .none kV_rounds_to_next dc_rounds_to_next pm_rounds_to_next an_rounds_to_next cd_rounds_to_next ct_rounds_to_next), sl_rounds_to_next⟩)
    (c_rounds_to_next : PySem.W.codeIn K cd_rounds_to_next "rounds_to_next" = true)
    (k_rounds_to_next : PySem.W.keepIn K (.ref f_rounds_to_next) = true)
    (a_quotient_bits : PySem.W.nsIn K mainGlobals "quotient_bits" = some (some (.ref f_quotient_bits)))
    (l_quotient_bits : K.lookup f_quotient_bits = some ⟨oc_quotient_bits, od_quotient_bits, .func (PySem.W.fnOf "quotient_bits" "quotient_bits" (defArgs st_quotient_bits) (defBody st_quotient_bits) (defScope st_quotient_bits) .none kV_quotient_bits dc_quotient_bits pm_quotient_bits an_quotient_bits cd_quotient_bits ct_quotient_bits), sl_quotient_bits⟩)
    (c_quotient_bits : PySem.W.codeIn K cd_quotient_bits "quotient_bits" = true)
    (k_quotient_bits : PySem.W.keepIn K (.ref f_quotient_bits) = true)
    (a_finished_remainder : PySem.W.nsIn K mainGlobals "finished_remainder" = some (some (.ref f_finished_remainder)))
    (l_finished_remainder : K.lookup f_finished_remainder = some ⟨oc_finished_remainder, od_finished_remainder, .func (PySem.W.fnOf "finished_remainder" "finished_remainder" (defArgs st_finished_remainder) (defBody st_finished_remainder) (defScope st_finished_remainder) .none kV_finished_remainder dc_finished_remainder pm_finished_remainder an_finished_remainder cd_finished_remainder ct_finished_remainder), sl_finished_remainder⟩)
    (c_finished_remainder : PySem.W.codeIn K cd_finished_remainder "finished_remainder" = true)
    (k_finished_remainder : PySem.W.keepIn K (.ref f_finished_remainder) = true)
    (a_partial_remainder : PySem.W.nsIn K mainGlobals "partial_remainder" = some (some (.ref f_partial_remainder)))
    (l_partial_remainder : K.lookup f_partial_remainder = some ⟨oc_partial_remainder, od_partial_remainder, .func (PySem.W.fnOf "partial_remainder" "partial_remainder" (defArgs st_partial_remainder) (defBody st_partial_remainder) (defScope st_partial_remainder) .none kV_partial_remainder dc_partial_remainder pm_partial_remainder an_partial_remainder cd_partial_remainder ct_partial_remainder), sl_partial_remainder⟩)
    (c_partial_remainder : PySem.W.codeIn K cd_partial_remainder "partial_remainder" = true)
    (k_partial_remainder : PySem.W.keepIn K (.ref f_partial_remainder) = true)
    (a_remainder : PySem.W.nsIn K mainGlobals "remainder" = some (some (.ref f_remainder)))
    (l_remainder : K.lookup f_remainder = some ⟨oc_remainder, od_remainder, .func (PySem.W.fnOf "remainder" "remainder" (defArgs st_remainder) (defBody st_remainder) (defScope st_remainder) .none kV_remainder dc_remainder pm_remainder an_remainder cd_remainder ct_remainder), sl_remainder⟩)
    (c_remainder : PySem.W.codeIn K cd_remainder "remainder" = true)
    (k_remainder : PySem.W.keepIn K (.ref f_remainder) = true)
    (a_too_wide : PySem.W.nsIn K mainGlobals "too_wide" = some (some (.ref f_too_wide)))
    (l_too_wide : K.lookup f_too_wide = some ⟨oc_too_wide, od_too_wide, .func (PySem.W.fnOf "too_wide" "too_wide" (defArgs st_too_wide) (defBody st_too_wide) (defScope st_too_wide) .none kV_too_wide dc_too_wide pm_too_wide an_too_wide cd_too_wide ct_too_wide), sl_too_wide⟩)
    (c_too_wide : PySem.W.codeIn K cd_too_wide "too_wide" = true)
    (k_too_wide : PySem.W.keepIn K (.ref f_too_wide) = true)
    (a_result_of_two : PySem.W.nsIn K mainGlobals "result_of_two" = some (some (.ref f_result_of_two)))
    (l_result_of_two : K.lookup f_result_of_two = some ⟨oc_result_of_two, od_result_of_two, .func (PySem.W.fnOf "result_of_two" "result_of_two" (defArgs st_result_of_two) (defBody st_result_of_two) (defScope st_result_of_two) .none kV_result_of_two dc_result_of_two pm_result_of_two an_result_of_two cd_result_of_two ct_result_of_two), sl_result_of_two⟩)
    (c_result_of_two : PySem.W.codeIn K cd_result_of_two "result_of_two" = true)
    (k_result_of_two : PySem.W.keepIn K (.ref f_result_of_two) = true)
    (a_told_of_two : PySem.W.nsIn K mainGlobals "told_of_two" = some (some (.ref f_told_of_two)))
    (l_told_of_two : K.lookup f_told_of_two = some ⟨oc_told_of_two, od_told_of_two, .func (PySem.W.fnOf "told_of_two" "told_of_two" (defArgs st_told_of_two) (defBody st_told_of_two) (defScope st_told_of_two) .none kV_told_of_two dc_told_of_two pm_told_of_two an_told_of_two cd_told_of_two ct_told_of_two), sl_told_of_two⟩)
    (c_told_of_two : PySem.W.codeIn K cd_told_of_two "told_of_two" = true)
    (k_told_of_two : PySem.W.keepIn K (.ref f_told_of_two) = true)
    (a_two : PySem.W.nsIn K mainGlobals "two" = some (some (.ref f_two)))
    (l_two : K.lookup f_two = some ⟨oc_two, od_two, .func (PySem.W.fnOf "two" "two" (defArgs st_two) (defBody st_two) (defScope st_two) .none kV_two dc_two pm_two an_two cd_two ct_two), sl_two⟩)
    (c_two : PySem.W.codeIn K cd_two "two" = true)
    (k_two : PySem.W.keepIn K (.ref f_two) = true)
    : ∃ fd : FuncData, (∀ (s : Shared) (us : List Value), us.length = (["op", "q", "r", "a", "b"] : List Str).length → BindsTo s fd ⟨us, []⟩ ((["op", "q", "r", "a", "b"] : List Str).zip us)) ∧ ∀ base : Heap, K.In base → base.Ns mainGlobals mg → FnOk P w K mg base CX0 11 fa fd ["op", "q", "r", "a", "b"] (spD K (clOf K) 5 C_two) := by
  have e := hfa.symm.trans (PySem.W.mg_of X G a_two)
  cases e
  have q_Format : clOf K "Format" = p_Format := by unfold clOf; rw [a_Format]
  have q_Number : clOf K "Number" = p_Number := by unfold clOf; rw [a_Number]
  have GG : Glo K mg (clOf K) := ⟨glk_int (PySem.W.mg_of X G g_HIGHEST_SIGNIFICAND_BIT), glk_str (PySem.W.mg_of X G g_ZERO), glk_str (PySem.W.mg_of X G g_NEARLY_SMALL), glk_str (PySem.W.mg_of X G g_SMALL), glk_str (PySem.W.mg_of X G g_ODD), glk_int (PySem.W.mg_of X G g_ALL_EXPONENT_BITS), glk_str (PySem.W.mg_of X G g_NORMAL), glk_str (PySem.W.mg_of X G g_INFINITE), glk_int (PySem.W.mg_of X G g_QUIET_BIT), glk_str (PySem.W.mg_of X G g_QUIET), glk_str (PySem.W.mg_of X G g_LOUD), glk_int (PySem.W.mg_of X G g_SIGN_PLACE), glk_int (PySem.W.mg_of X G g_NEAR), glk_int (PySem.W.mg_of X G g_DOWN), glk_int (PySem.W.mg_of X G g_UPWARD), glk_int (PySem.W.mg_of X G g_INEXACT), glk_int (PySem.W.mg_of X G g_UP), glk_int (PySem.W.mg_of X G g_CUT), glk_int (PySem.W.mg_of X G g_OVERFLOW), glk_int (PySem.W.mg_of X G g_UNDERFLOW), glk_int (PySem.W.mg_of X G g_INVALID), glk_int (PySem.W.mg_of X G g_EMPTY), glk_int (PySem.W.mg_of X G g_DIGITS), glk_int (PySem.W.mg_of X G g_ALL_SIGNIFICAND_BITS), glk_int (PySem.W.mg_of X G g_LEAST_EXPONENT), glk_int (PySem.W.mg_of X G g_DIVIDED_BY_ZERO), glk_int (PySem.W.mg_of X G g_EXTRA_PLACES), glk_int (PySem.W.mg_of X G g_SMALL_IN), glk_int (PySem.W.mg_of X G g_EQUAL), glk_int (PySem.W.mg_of X G g_ABOVE), glk_int (PySem.W.mg_of X G g_BELOW), glk_int (PySem.W.mg_of X G g_NOT_ORDERED), glk_int (PySem.W.mg_of X G g_FAR), glk_int (PySem.W.mg_of X G g_UNFINISHED), glk_int (PySem.W.mg_of X G g_ADD), glk_int (PySem.W.mg_of X G g_SUB), glk_int (PySem.W.mg_of X G g_MUL), glk_int (PySem.W.mg_of X G g_DIV), glk_int (PySem.W.mg_of X G g_SCALE), glk_int (PySem.W.mg_of X G g_PREM1), glk_int (PySem.W.mg_of X G g_COM), glk_int (PySem.W.mg_of X G g_UCOM), glk_int (PySem.W.mg_of X G g_PREM), glk_int (PySem.W.mg_of X G g_BEYOND), PySem.W.mg_none_of X G b_max, PySem.W.mg_none_of X G b_min, PySem.W.mg_none_of X G b_abs, PySem.W.mg_none_of X G b_any, (by rw [q_Format]; exact ⟨pg_Format, hd_Format, po_Format, sa_Format⟩), (by rw [q_Number]; exact ⟨pg_Number, hd_Number, po_Number, sa_Number⟩), (by rw [q_Format]; exact n_all_exponent_bits), (by rw [q_Format]; exact n_sign_place), (by rw [q_Format]; exact n_significand_places), (by rw [q_Format]; exact n_least_exponent), (by rw [q_Format]; exact n_greatest_exponent), (by rw [q_Format]; exact n_digits), (by rw [q_Number]; exact n_kind), (by rw [q_Number]; exact n_significand), (by rw [q_Number]; exact n_power), (by rw [q_Number]; exact n_bits), (by rw [q_Number]; exact n_sign)⟩
  refine ⟨PySem.W.fnOf "two" "two" (defArgs st_two) (defBody st_two) (defScope st_two) .none kV_two dc_two pm_two an_two cd_two ct_two, fun s us hu => match us, hu with | [_, _, _, _, _], _ => .of_eq rfl, fun base _ _ => ?_⟩
  have z_Format_init := ok_Format_init (P := P) (w := w) (base := base) GG (fun_mk (st := st_Format_init) l_Format_init c_Format_init k_Format_init) (by rw [q_Format]; exact PySem.W.mg_of X G a_Format) (by rw [q_Format]; exact ⟨mk_Format, a_Format_init, i_Format_init, kc_Format⟩) 
  have z_extended_format := ok_extended_format (P := P) (w := w) (base := base) GG (fun_mk (st := st_extended_format) l_extended_format c_extended_format k_extended_format) (PySem.W.mg_of X G a_extended_format) (z_Format_init.mono (by decide))
  have z_too_many_bits := ok_too_many_bits (P := P) (w := w) (base := base) GG (fun_mk (st := st_too_many_bits) l_too_many_bits c_too_many_bits k_too_many_bits) (PySem.W.mg_of X G a_too_many_bits) 
  have z_shown_bits := ok_shown_bits (P := P) (w := w) (base := base) GG (fun_mk (st := st_shown_bits) l_shown_bits c_shown_bits k_shown_bits) (PySem.W.mg_of X G a_shown_bits) 
  have z_joined := ok_joined (P := P) (w := w) (base := base) GG (fun_mk (st := st_joined) l_joined c_joined k_joined) (PySem.W.mg_of X G a_joined) (z_shown_bits.mono (by decide))
  have z_shifted := ok_shifted (P := P) (w := w) (base := base) GG (fun_mk (st := st_shifted) l_shifted c_shifted k_shifted) (PySem.W.mg_of X G a_shifted) 
  have z_value_bits := ok_value_bits (P := P) (w := w) (base := base) GG (fun_mk (st := st_value_bits) l_value_bits c_value_bits k_value_bits) (PySem.W.mg_of X G a_value_bits) (z_joined.mono (by decide)) (z_shifted.mono (by decide))
  have z_endless_bits := ok_endless_bits (P := P) (w := w) (base := base) GG (fun_mk (st := st_endless_bits) l_endless_bits c_endless_bits k_endless_bits) (PySem.W.mg_of X G a_endless_bits) (z_joined.mono (by decide))
  have z_kind_of := ok_kind_of (P := P) (w := w) (base := base) GG (fun_mk (st := st_kind_of) l_kind_of c_kind_of k_kind_of) (PySem.W.mg_of X G a_kind_of) 
  have z_is_small := ok_is_small (P := P) (w := w) (base := base) GG (fun_mk (st := st_is_small) l_is_small c_is_small k_is_small) (PySem.W.mg_of X G a_is_small) 
  have z_is_no_number := ok_is_no_number (P := P) (w := w) (base := base) GG (fun_mk (st := st_is_no_number) l_is_no_number c_is_no_number k_is_no_number) (PySem.W.mg_of X G a_is_no_number) 
  have z_exponent_of := ok_exponent_of (P := P) (w := w) (base := base) GG (fun_mk (st := st_exponent_of) l_exponent_of c_exponent_of k_exponent_of) (PySem.W.mg_of X G a_exponent_of) 
  have z_turned := ok_turned (P := P) (w := w) (base := base) GG (fun_mk (st := st_turned) l_turned c_turned k_turned) (PySem.W.mg_of X G a_turned) 
  have z_without_sign := ok_without_sign (P := P) (w := w) (base := base) GG (fun_mk (st := st_without_sign) l_without_sign c_without_sign k_without_sign) (PySem.W.mg_of X G a_without_sign) 
  have z_zero_bits := ok_zero_bits (P := P) (w := w) (base := base) GG (fun_mk (st := st_zero_bits) l_zero_bits c_zero_bits k_zero_bits) (PySem.W.mg_of X G a_zero_bits) (z_joined.mono (by decide)) (z_extended_format.mono (by decide))
  have z_infinite_bits := ok_infinite_bits (P := P) (w := w) (base := base) GG (fun_mk (st := st_infinite_bits) l_infinite_bits c_infinite_bits k_infinite_bits) (PySem.W.mg_of X G a_infinite_bits) (z_endless_bits.mono (by decide)) (z_extended_format.mono (by decide))
  have z_finite_bits := ok_finite_bits (P := P) (w := w) (base := base) GG (fun_mk (st := st_finite_bits) l_finite_bits c_finite_bits k_finite_bits) (PySem.W.mg_of X G a_finite_bits) (z_value_bits.mono (by decide)) (z_extended_format.mono (by decide))
  have z_bits_by_value := ok_bits_by_value (P := P) (w := w) (base := base) GG (fun_mk (st := st_bits_by_value) l_bits_by_value c_bits_by_value k_bits_by_value) (PySem.W.mg_of X G a_bits_by_value) (z_finite_bits.mono (by decide))
  have z_rounds_away := ok_rounds_away (P := P) (w := w) (base := base) GG (fun_mk (st := st_rounds_away) l_rounds_away c_rounds_away k_rounds_away) (PySem.W.mg_of X G a_rounds_away) 
  have z_rounded_multiple := ok_rounded_multiple (P := P) (w := w) (base := base) GG (fun_mk (st := st_rounded_multiple) l_rounded_multiple c_rounded_multiple k_rounded_multiple) (PySem.W.mg_of X G a_rounded_multiple) (z_rounds_away.mono (by decide))
  have z_flags_of_loss := ok_flags_of_loss (P := P) (w := w) (base := base) GG (fun_mk (st := st_flags_of_loss) l_flags_of_loss c_flags_of_loss k_flags_of_loss) (PySem.W.mg_of X G a_flags_of_loss) 
  have z_overflowed := ok_overflowed (P := P) (w := w) (base := base) GG (fun_mk (st := st_overflowed) l_overflowed c_overflowed k_overflowed) (PySem.W.mg_of X G a_overflowed) (z_value_bits.mono (by decide)) (z_endless_bits.mono (by decide))
  have z_rounded_small := ok_rounded_small (P := P) (w := w) (base := base) GG (fun_mk (st := st_rounded_small) l_rounded_small c_rounded_small k_rounded_small) (PySem.W.mg_of X G a_rounded_small) (z_rounded_multiple.mono (by decide)) (z_flags_of_loss.mono (by decide)) (z_value_bits.mono (by decide))
  have z_rounded_to := ok_rounded_to (P := P) (w := w) (base := base) GG (fun_mk (st := st_rounded_to) l_rounded_to c_rounded_to k_rounded_to) (PySem.W.mg_of X G a_rounded_to) (z_rounded_multiple.mono (by decide)) (z_overflowed.mono (by decide)) (z_rounded_small.mono (by decide)) (z_flags_of_loss.mono (by decide)) (z_value_bits.mono (by decide))
  have z_rounded := ok_rounded (P := P) (w := w) (base := base) GG (fun_mk (st := st_rounded) l_rounded c_rounded k_rounded) (PySem.W.mg_of X G a_rounded) (z_rounded_to.mono (by decide)) (z_extended_format.mono (by decide))
  have z_added_infinite := ok_added_infinite (P := P) (w := w) (base := base) GG (fun_mk (st := st_added_infinite) l_added_infinite c_added_infinite k_added_infinite) (PySem.W.mg_of X G a_added_infinite) 
  have z_signed_size := ok_signed_size (P := P) (w := w) (base := base) GG (fun_mk (st := st_signed_size) l_signed_size c_signed_size k_signed_size) (PySem.W.mg_of X G a_signed_size) 
  have z_sign_of_zero_sum := ok_sign_of_zero_sum (P := P) (w := w) (base := base) GG (fun_mk (st := st_sign_of_zero_sum) l_sign_of_zero_sum c_sign_of_zero_sum k_sign_of_zero_sum) (PySem.W.mg_of X G a_sign_of_zero_sum) 
  have z_added := ok_added (P := P) (w := w) (base := base) GG (fun_mk (st := st_added) l_added c_added k_added) (PySem.W.mg_of X G a_added) (z_added_infinite.mono (by decide)) (z_signed_size.mono (by decide)) (z_zero_bits.mono (by decide)) (z_sign_of_zero_sum.mono (by decide)) (z_rounded.mono (by decide))
  have z_Number_init := ok_Number_init (P := P) (w := w) (base := base) GG (fun_mk (st := st_Number_init) l_Number_init c_Number_init k_Number_init) (by rw [q_Number]; exact PySem.W.mg_of X G a_Number) (by rw [q_Number]; exact ⟨mk_Number, a_Number_init, i_Number_init, kc_Number⟩) (z_kind_of.mono (by decide))
  have z_subtracted := ok_subtracted (P := P) (w := w) (base := base) GG (fun_mk (st := st_subtracted) l_subtracted c_subtracted k_subtracted) (PySem.W.mg_of X G a_subtracted) (z_added.mono (by decide)) (z_turned.mono (by decide)) (z_Number_init.mono (by decide))
  have z_multiplied := ok_multiplied (P := P) (w := w) (base := base) GG (fun_mk (st := st_multiplied) l_multiplied c_multiplied k_multiplied) (PySem.W.mg_of X G a_multiplied) (z_infinite_bits.mono (by decide)) (z_zero_bits.mono (by decide)) (z_rounded.mono (by decide))
  have z_with_rest_marked := ok_with_rest_marked (P := P) (w := w) (base := base) GG (fun_mk (st := st_with_rest_marked) l_with_rest_marked c_with_rest_marked k_with_rest_marked) (PySem.W.mg_of X G a_with_rest_marked) 
  have z_divided := ok_divided (P := P) (w := w) (base := base) GG (fun_mk (st := st_divided) l_divided c_divided k_divided) (PySem.W.mg_of X G a_divided) (z_infinite_bits.mono (by decide)) (z_zero_bits.mono (by decide)) (z_with_rest_marked.mono (by decide)) (z_rounded.mono (by decide))
  have z_precedence := ok_precedence (P := P) (w := w) (base := base) GG (fun_mk (st := st_precedence) l_precedence c_precedence k_precedence) (PySem.W.mg_of X G a_precedence) 
  have z_chosen := ok_chosen (P := P) (w := w) (base := base) GG (fun_mk (st := st_chosen) l_chosen c_chosen k_chosen) (PySem.W.mg_of X G a_chosen) (z_is_no_number.mono (by decide)) (z_precedence.mono (by decide))
  have z_no_number_told := ok_no_number_told (P := P) (w := w) (base := base) GG (fun_mk (st := st_no_number_told) l_no_number_told c_no_number_told k_no_number_told) (PySem.W.mg_of X G a_no_number_told) (z_chosen.mono (by decide))
  have z_with_small_told := ok_with_small_told (P := P) (w := w) (base := base) GG (fun_mk (st := st_with_small_told) l_with_small_told c_with_small_told k_with_small_told) (PySem.W.mg_of X G a_with_small_told) (z_is_small.mono (by decide))
  have z_order_bits := ok_order_bits (P := P) (w := w) (base := base) GG (fun_mk (st := st_order_bits) l_order_bits c_order_bits k_order_bits) (PySem.W.mg_of X G a_order_bits) 
  have z_rank := ok_rank (P := P) (w := w) (base := base) GG (fun_mk (st := st_rank) l_rank c_rank k_rank) (PySem.W.mg_of X G a_rank) (z_without_sign.mono (by decide)) (z_bits_by_value.mono (by decide))
  have z_compared := ok_compared (P := P) (w := w) (base := base) GG (fun_mk (st := st_compared) l_compared c_compared k_compared) (PySem.W.mg_of X G a_compared) (z_is_no_number.mono (by decide)) (z_with_small_told.mono (by decide)) (z_order_bits.mono (by decide)) (z_rank.mono (by decide))
  have z_compared_quietly := ok_compared_quietly (P := P) (w := w) (base := base) GG (fun_mk (st := st_compared_quietly) l_compared_quietly c_compared_quietly k_compared_quietly) (PySem.W.mg_of X G a_compared_quietly) (z_compared.mono (by decide))
  have z_scaled_without_end := ok_scaled_without_end (P := P) (w := w) (base := base) GG (fun_mk (st := st_scaled_without_end) l_scaled_without_end c_scaled_without_end k_scaled_without_end) (PySem.W.mg_of X G a_scaled_without_end) (z_zero_bits.mono (by decide)) (z_infinite_bits.mono (by decide))
  have z_places_to_scale := ok_places_to_scale (P := P) (w := w) (base := base) GG (fun_mk (st := st_places_to_scale) l_places_to_scale c_places_to_scale k_places_to_scale) (PySem.W.mg_of X G a_places_to_scale) (z_shifted.mono (by decide))
  have z_scaled := ok_scaled (P := P) (w := w) (base := base) GG (fun_mk (st := st_scaled) l_scaled c_scaled k_scaled) (PySem.W.mg_of X G a_scaled) (z_scaled_without_end.mono (by decide)) (z_rounded.mono (by decide)) (z_places_to_scale.mono (by decide))
  have z_rounds_to_next := ok_rounds_to_next (P := P) (w := w) (base := base) GG (fun_mk (st := st_rounds_to_next) l_rounds_to_next c_rounds_to_next k_rounds_to_next) (PySem.W.mg_of X G a_rounds_to_next) 
  have z_quotient_bits := ok_quotient_bits (P := P) (w := w) (base := base) GG (fun_mk (st := st_quotient_bits) l_quotient_bits c_quotient_bits k_quotient_bits) (PySem.W.mg_of X G a_quotient_bits) 
  have z_finished_remainder := ok_finished_remainder (P := P) (w := w) (base := base) GG (fun_mk (st := st_finished_remainder) l_finished_remainder c_finished_remainder k_finished_remainder) (PySem.W.mg_of X G a_finished_remainder) (z_rounds_to_next.mono (by decide)) (z_quotient_bits.mono (by decide)) (z_finite_bits.mono (by decide))
  have z_partial_remainder := ok_partial_remainder (P := P) (w := w) (base := base) GG (fun_mk (st := st_partial_remainder) l_partial_remainder c_partial_remainder k_partial_remainder) (PySem.W.mg_of X G a_partial_remainder) (z_finite_bits.mono (by decide))
  have z_remainder := ok_remainder (P := P) (w := w) (base := base) GG (fun_mk (st := st_remainder) l_remainder c_remainder k_remainder) (PySem.W.mg_of X G a_remainder) (z_bits_by_value.mono (by decide)) (z_exponent_of.mono (by decide)) (z_finished_remainder.mono (by decide)) (z_partial_remainder.mono (by decide))
  have z_too_wide := ok_too_wide (P := P) (w := w) (base := base) GG (fun_mk (st := st_too_wide) l_too_wide c_too_wide k_too_wide) (PySem.W.mg_of X G a_too_wide) (z_too_many_bits.mono (by decide)) (z_extended_format.mono (by decide))
  have z_result_of_two := ok_result_of_two (P := P) (w := w) (base := base) GG (fun_mk (st := st_result_of_two) l_result_of_two c_result_of_two k_result_of_two) (PySem.W.mg_of X G a_result_of_two) (z_added.mono (by decide)) (z_subtracted.mono (by decide)) (z_multiplied.mono (by decide)) (z_divided.mono (by decide)) (z_scaled.mono (by decide)) (z_remainder.mono (by decide))
  have z_told_of_two := ok_told_of_two (P := P) (w := w) (base := base) GG (fun_mk (st := st_told_of_two) l_told_of_two c_told_of_two k_told_of_two) (PySem.W.mg_of X G a_told_of_two) (z_compared.mono (by decide)) (z_compared_quietly.mono (by decide)) (z_no_number_told.mono (by decide)) (z_with_small_told.mono (by decide)) (z_result_of_two.mono (by decide))
  exact (ok_top_two (P := P) (w := w) (base := base) GG (fun_mk (st := st_two) l_two c_two k_two) (z_too_wide.mono (by decide)) (z_told_of_two.mono (by decide)) (z_Number_init.mono (by decide)))
end W_s01_two
open PySem PySem.W PyProof.Rows
set_option maxRecDepth 100000 in
set_option maxHeartbeats 0 in
theorem PySem.Challenge.cw_wideunit_s01_two_holds : PySem.Challenge.rw_wideunit_s01_two.Holds := by
  w_on; k_headS; (case hw => exact ⟨[.int 0, .int 24, .int 0, .int 0, .int 0], by decide +kernel, by decide +kernel⟩)
  k_fillS
  refine L2.walk_specK (r := PySem.Challenge.rw_wideunit_s01_two) (k := 11) (CX := L2.CX0) (ps := ["op", "q", "r", "a", "b"]) (sp := fun K => DD.spD K (DD.clOf K) 5 UX.C_two) (by decide +kernel) rfl rfl ⟨rfl, by decide, by decide⟩ (fun w h Y => PySem.W.kIn_of Y) ?F ?S (fun _ _ _ _ z => z)
  case F =>
    intro w mg fa h Y KX G hmg
    refine' W_s01_two.all_mk KX G hmg ?a_Format ?pg_Format ?hd_Format ?po_Format ?sa_Format ?mk_Format ?kc_Format ?a_Number ?pg_Number ?hd_Number ?po_Number ?sa_Number ?mk_Number ?kc_Number ?n_all_exponent_bits ?n_sign_place ?n_significand_places ?n_least_exponent ?n_greatest_exponent ?n_digits ?n_kind ?n_significand ?n_power ?n_bits ?n_sign ?g_HIGHEST_SIGNIFICAND_BIT ?g_ZERO ?g_NEARLY_SMALL ?g_SMALL ?g_ODD ?g_ALL_EXPONENT_BITS ?g_NORMAL ?g_INFINITE ?g_QUIET_BIT ?g_QUIET ?g_LOUD ?g_SIGN_PLACE ?g_NEAR ?g_DOWN ?g_UPWARD ?g_INEXACT ?g_UP ?g_CUT ?g_OVERFLOW ?g_UNDERFLOW ?g_INVALID ?g_EMPTY ?g_DIGITS ?g_ALL_SIGNIFICAND_BITS ?g_LEAST_EXPONENT ?g_DIVIDED_BY_ZERO ?g_EXTRA_PLACES ?g_SMALL_IN ?g_EQUAL ?g_ABOVE ?g_BELOW ?g_NOT_ORDERED ?g_FAR ?g_UNFINISHED ?g_ADD ?g_SUB ?g_MUL ?g_DIV ?g_SCALE ?g_PREM1 ?g_COM ?g_UCOM ?g_PREM ?g_BEYOND ?b_max ?b_min ?b_abs ?b_any ?a_Format_init ?i_Format_init ?l_Format_init ?c_Format_init ?k_Format_init ?a_extended_format ?l_extended_format ?c_extended_format ?k_extended_format ?a_too_many_bits ?l_too_many_bits ?c_too_many_bits ?k_too_many_bits ?a_shown_bits ?l_shown_bits ?c_shown_bits ?k_shown_bits ?a_joined ?l_joined ?c_joined ?k_joined ?a_shifted ?l_shifted ?c_shifted ?k_shifted ?a_value_bits ?l_value_bits ?c_value_bits ?k_value_bits ?a_endless_bits ?l_endless_bits ?c_endless_bits ?k_endless_bits ?a_kind_of ?l_kind_of ?c_kind_of ?k_kind_of ?a_is_small ?l_is_small ?c_is_small ?k_is_small ?a_is_no_number ?l_is_no_number ?c_is_no_number ?k_is_no_number ?a_exponent_of ?l_exponent_of ?c_exponent_of ?k_exponent_of ?a_turned ?l_turned ?c_turned ?k_turned ?a_without_sign ?l_without_sign ?c_without_sign ?k_without_sign ?a_zero_bits ?l_zero_bits ?c_zero_bits ?k_zero_bits ?a_infinite_bits ?l_infinite_bits ?c_infinite_bits ?k_infinite_bits ?a_finite_bits ?l_finite_bits ?c_finite_bits ?k_finite_bits ?a_bits_by_value ?l_bits_by_value ?c_bits_by_value ?k_bits_by_value ?a_rounds_away ?l_rounds_away ?c_rounds_away ?k_rounds_away ?a_rounded_multiple ?l_rounded_multiple ?c_rounded_multiple ?k_rounded_multiple ?a_flags_of_loss ?l_flags_of_loss ?c_flags_of_loss ?k_flags_of_loss ?a_overflowed ?l_overflowed ?c_overflowed ?k_overflowed ?a_rounded_small ?l_rounded_small ?c_rounded_small ?k_rounded_small ?a_rounded_to ?l_rounded_to ?c_rounded_to ?k_rounded_to ?a_rounded ?l_rounded ?c_rounded ?k_rounded ?a_added_infinite ?l_added_infinite ?c_added_infinite ?k_added_infinite ?a_signed_size ?l_signed_size ?c_signed_size ?k_signed_size ?a_sign_of_zero_sum ?l_sign_of_zero_sum ?c_sign_of_zero_sum ?k_sign_of_zero_sum ?a_added ?l_added ?c_added ?k_added ?a_Number_init ?i_Number_init ?l_Number_init ?c_Number_init ?k_Number_init ?a_subtracted ?l_subtracted ?c_subtracted ?k_subtracted ?a_multiplied ?l_multiplied ?c_multiplied ?k_multiplied ?a_with_rest_marked ?l_with_rest_marked ?c_with_rest_marked ?k_with_rest_marked ?a_divided ?l_divided ?c_divided ?k_divided ?a_precedence ?l_precedence ?c_precedence ?k_precedence ?a_chosen ?l_chosen ?c_chosen ?k_chosen ?a_no_number_told ?l_no_number_told ?c_no_number_told ?k_no_number_told ?a_with_small_told ?l_with_small_told ?c_with_small_told ?k_with_small_told ?a_order_bits ?l_order_bits ?c_order_bits ?k_order_bits ?a_rank ?l_rank ?c_rank ?k_rank ?a_compared ?l_compared ?c_compared ?k_compared ?a_compared_quietly ?l_compared_quietly ?c_compared_quietly ?k_compared_quietly ?a_scaled_without_end ?l_scaled_without_end ?c_scaled_without_end ?k_scaled_without_end ?a_places_to_scale ?l_places_to_scale ?c_places_to_scale ?k_places_to_scale ?a_scaled ?l_scaled ?c_scaled ?k_scaled ?a_rounds_to_next ?l_rounds_to_next ?c_rounds_to_next ?k_rounds_to_next ?a_quotient_bits ?l_quotient_bits ?c_quotient_bits ?k_quotient_bits ?a_finished_remainder ?l_finished_remainder ?c_finished_remainder ?k_finished_remainder ?a_partial_remainder ?l_partial_remainder ?c_partial_remainder ?k_partial_remainder ?a_remainder ?l_remainder ?c_remainder ?k_remainder ?a_too_wide ?l_too_wide ?c_too_wide ?k_too_wide ?a_result_of_two ?l_result_of_two ?c_result_of_two ?k_result_of_two ?a_told_of_two ?l_told_of_two ?c_told_of_two ?k_told_of_two ?a_two ?l_two ?c_two ?k_two
    (case a_Format => k_is)
    (case pg_Format => k_is)
    (case hd_Format => k_is)
    (case po_Format => k_is)
    (case sa_Format => k_is)
    (case mk_Format => k_is)
    (case kc_Format => k_is)
    (case a_Number => k_is)
    (case pg_Number => k_is)
    (case hd_Number => k_is)
    (case po_Number => k_is)
    (case sa_Number => k_is)
    (case mk_Number => k_is)
    (case kc_Number => k_is)
    (case n_all_exponent_bits => k_is)
    (case n_sign_place => k_is)
    (case n_significand_places => k_is)
    (case n_least_exponent => k_is)
    (case n_greatest_exponent => k_is)
    (case n_digits => k_is)
    (case n_kind => k_is)
    (case n_significand => k_is)
    (case n_power => k_is)
    (case n_bits => k_is)
    (case n_sign => k_is)
    (case g_HIGHEST_SIGNIFICAND_BIT => k_is)
    (case g_ZERO => k_is)
    (case g_NEARLY_SMALL => k_is)
    (case g_SMALL => k_is)
    (case g_ODD => k_is)
    (case g_ALL_EXPONENT_BITS => k_is)
    (case g_NORMAL => k_is)
    (case g_INFINITE => k_is)
    (case g_QUIET_BIT => k_is)
    (case g_QUIET => k_is)
    (case g_LOUD => k_is)
    (case g_SIGN_PLACE => k_is)
    (case g_NEAR => k_is)
    (case g_DOWN => k_is)
    (case g_UPWARD => k_is)
    (case g_INEXACT => k_is)
    (case g_UP => k_is)
    (case g_CUT => k_is)
    (case g_OVERFLOW => k_is)
    (case g_UNDERFLOW => k_is)
    (case g_INVALID => k_is)
    (case g_EMPTY => k_is)
    (case g_DIGITS => k_is)
    (case g_ALL_SIGNIFICAND_BITS => k_is)
    (case g_LEAST_EXPONENT => k_is)
    (case g_DIVIDED_BY_ZERO => k_is)
    (case g_EXTRA_PLACES => k_is)
    (case g_SMALL_IN => k_is)
    (case g_EQUAL => k_is)
    (case g_ABOVE => k_is)
    (case g_BELOW => k_is)
    (case g_NOT_ORDERED => k_is)
    (case g_FAR => k_is)
    (case g_UNFINISHED => k_is)
    (case g_ADD => k_is)
    (case g_SUB => k_is)
    (case g_MUL => k_is)
    (case g_DIV => k_is)
    (case g_SCALE => k_is)
    (case g_PREM1 => k_is)
    (case g_COM => k_is)
    (case g_UCOM => k_is)
    (case g_PREM => k_is)
    (case g_BEYOND => k_is)
    (case b_max => k_is)
    (case b_min => k_is)
    (case b_abs => k_is)
    (case b_any => k_is)
    (case a_Format_init => k_is)
    (case i_Format_init => k_is)
    (case l_Format_init => k_is)
    (case c_Format_init => k_is)
    (case k_Format_init => k_is)
    (case a_extended_format => k_is)
    (case l_extended_format => k_is)
    (case c_extended_format => k_is)
    (case k_extended_format => k_is)
    (case a_too_many_bits => k_is)
    (case l_too_many_bits => k_is)
    (case c_too_many_bits => k_is)
    (case k_too_many_bits => k_is)
    (case a_shown_bits => k_is)
    (case l_shown_bits => k_is)
    (case c_shown_bits => k_is)
    (case k_shown_bits => k_is)
    (case a_joined => k_is)
    (case l_joined => k_is)
    (case c_joined => k_is)
    (case k_joined => k_is)
    (case a_shifted => k_is)
    (case l_shifted => k_is)
    (case c_shifted => k_is)
    (case k_shifted => k_is)
    (case a_value_bits => k_is)
    (case l_value_bits => k_is)
    (case c_value_bits => k_is)
    (case k_value_bits => k_is)
    (case a_endless_bits => k_is)
    (case l_endless_bits => k_is)
    (case c_endless_bits => k_is)
    (case k_endless_bits => k_is)
    (case a_kind_of => k_is)
    (case l_kind_of => k_is)
    (case c_kind_of => k_is)
    (case k_kind_of => k_is)
    (case a_is_small => k_is)
    (case l_is_small => k_is)
    (case c_is_small => k_is)
    (case k_is_small => k_is)
    (case a_is_no_number => k_is)
    (case l_is_no_number => k_is)
    (case c_is_no_number => k_is)
    (case k_is_no_number => k_is)
    (case a_exponent_of => k_is)
    (case l_exponent_of => k_is)
    (case c_exponent_of => k_is)
    (case k_exponent_of => k_is)
    (case a_turned => k_is)
    (case l_turned => k_is)
    (case c_turned => k_is)
    (case k_turned => k_is)
    (case a_without_sign => k_is)
    (case l_without_sign => k_is)
    (case c_without_sign => k_is)
    (case k_without_sign => k_is)
    (case a_zero_bits => k_is)
    (case l_zero_bits => k_is)
    (case c_zero_bits => k_is)
    (case k_zero_bits => k_is)
    (case a_infinite_bits => k_is)
    (case l_infinite_bits => k_is)
    (case c_infinite_bits => k_is)
    (case k_infinite_bits => k_is)
    (case a_finite_bits => k_is)
    (case l_finite_bits => k_is)
    (case c_finite_bits => k_is)
    (case k_finite_bits => k_is)
    (case a_bits_by_value => k_is)
    (case l_bits_by_value => k_is)
    (case c_bits_by_value => k_is)
    (case k_bits_by_value => k_is)
    (case a_rounds_away => k_is)
    (case l_rounds_away => k_is)
    (case c_rounds_away => k_is)
    (case k_rounds_away => k_is)
    (case a_rounded_multiple => k_is)
    (case l_rounded_multiple => k_is)
    (case c_rounded_multiple => k_is)
    (case k_rounded_multiple => k_is)
    (case a_flags_of_loss => k_is)
    (case l_flags_of_loss => k_is)
    (case c_flags_of_loss => k_is)
    (case k_flags_of_loss => k_is)
    (case a_overflowed => k_is)
    (case l_overflowed => k_is)
    (case c_overflowed => k_is)
    (case k_overflowed => k_is)
    (case a_rounded_small => k_is)
    (case l_rounded_small => k_is)
    (case c_rounded_small => k_is)
    (case k_rounded_small => k_is)
    (case a_rounded_to => k_is)
    (case l_rounded_to => k_is)
    (case c_rounded_to => k_is)
    (case k_rounded_to => k_is)
    (case a_rounded => k_is)
    (case l_rounded => k_is)
    (case c_rounded => k_is)
    (case k_rounded => k_is)
    (case a_added_infinite => k_is)
    (case l_added_infinite => k_is)
    (case c_added_infinite => k_is)
    (case k_added_infinite => k_is)
    (case a_signed_size => k_is)
    (case l_signed_size => k_is)
    (case c_signed_size => k_is)
    (case k_signed_size => k_is)
    (case a_sign_of_zero_sum => k_is)
    (case l_sign_of_zero_sum => k_is)
    (case c_sign_of_zero_sum => k_is)
    (case k_sign_of_zero_sum => k_is)
    (case a_added => k_is)
    (case l_added => k_is)
    (case c_added => k_is)
    (case k_added => k_is)
    (case a_Number_init => k_is)
    (case i_Number_init => k_is)
    (case l_Number_init => k_is)
    (case c_Number_init => k_is)
    (case k_Number_init => k_is)
    (case a_subtracted => k_is)
    (case l_subtracted => k_is)
    (case c_subtracted => k_is)
    (case k_subtracted => k_is)
    (case a_multiplied => k_is)
    (case l_multiplied => k_is)
    (case c_multiplied => k_is)
    (case k_multiplied => k_is)
    (case a_with_rest_marked => k_is)
    (case l_with_rest_marked => k_is)
    (case c_with_rest_marked => k_is)
    (case k_with_rest_marked => k_is)
    (case a_divided => k_is)
    (case l_divided => k_is)
    (case c_divided => k_is)
    (case k_divided => k_is)
    (case a_precedence => k_is)
    (case l_precedence => k_is)
    (case c_precedence => k_is)
    (case k_precedence => k_is)
    (case a_chosen => k_is)
    (case l_chosen => k_is)
    (case c_chosen => k_is)
    (case k_chosen => k_is)
    (case a_no_number_told => k_is)
    (case l_no_number_told => k_is)
    (case c_no_number_told => k_is)
    (case k_no_number_told => k_is)
    (case a_with_small_told => k_is)
    (case l_with_small_told => k_is)
    (case c_with_small_told => k_is)
    (case k_with_small_told => k_is)
    (case a_order_bits => k_is)
    (case l_order_bits => k_is)
    (case c_order_bits => k_is)
    (case k_order_bits => k_is)
    (case a_rank => k_is)
    (case l_rank => k_is)
    (case c_rank => k_is)
    (case k_rank => k_is)
    (case a_compared => k_is)
    (case l_compared => k_is)
    (case c_compared => k_is)
    (case k_compared => k_is)
    (case a_compared_quietly => k_is)
    (case l_compared_quietly => k_is)
    (case c_compared_quietly => k_is)
    (case k_compared_quietly => k_is)
    (case a_scaled_without_end => k_is)
    (case l_scaled_without_end => k_is)
    (case c_scaled_without_end => k_is)
    (case k_scaled_without_end => k_is)
    (case a_places_to_scale => k_is)
    (case l_places_to_scale => k_is)
    (case c_places_to_scale => k_is)
    (case k_places_to_scale => k_is)
    (case a_scaled => k_is)
    (case l_scaled => k_is)
    (case c_scaled => k_is)
    (case k_scaled => k_is)
    (case a_rounds_to_next => k_is)
    (case l_rounds_to_next => k_is)
    (case c_rounds_to_next => k_is)
    (case k_rounds_to_next => k_is)
    (case a_quotient_bits => k_is)
    (case l_quotient_bits => k_is)
    (case c_quotient_bits => k_is)
    (case k_quotient_bits => k_is)
    (case a_finished_remainder => k_is)
    (case l_finished_remainder => k_is)
    (case c_finished_remainder => k_is)
    (case k_finished_remainder => k_is)
    (case a_partial_remainder => k_is)
    (case l_partial_remainder => k_is)
    (case c_partial_remainder => k_is)
    (case k_partial_remainder => k_is)
    (case a_remainder => k_is)
    (case l_remainder => k_is)
    (case c_remainder => k_is)
    (case k_remainder => k_is)
    (case a_too_wide => k_is)
    (case l_too_wide => k_is)
    (case c_too_wide => k_is)
    (case k_too_wide => k_is)
    (case a_result_of_two => k_is)
    (case l_result_of_two => k_is)
    (case c_result_of_two => k_is)
    (case k_result_of_two => k_is)
    (case a_told_of_two => k_is)
    (case l_told_of_two => k_is)
    (case c_told_of_two => k_is)
    (case k_told_of_two => k_is)
    (case a_two => k_is)
    (case l_two => k_is)
    (case c_two => k_is)
    (case k_two => k_is)
  case S =>
    intro K H xs a hO hwi hask hx
    cases hx with
    | cons h0 hx =>
      cases h0
      cases hx with
      | cons h1 hx =>
        cases h1
        cases hx with
        | cons h2 hx =>
          cases h2
          cases hx with
          | cons h3 hx =>
            cases h3
            cases hx with
            | cons h4 hx =>
              cases h4
              cases hx
              have q : (Codec.inInt (0) 8 a.1 && (Codec.inInt (24) 64 a.2.1 && (Codec.inInt (0) 3 a.2.2.1 && (Codec.inInt (0) 79228162514264337593543950335 a.2.2.2.1 && (Codec.inInt (0) 79228162514264337593543950335 a.2.2.2.2.1 && true))))) = true := hwi
              simp only [Bool.and_eq_true, Codec.inInt, decide_eq_true_eq] at q
              obtain ⟨oq, hoq⟩ := UX.two_of q.1.1 q.1.2
              obtain ⟨rq, hrq⟩ := UX.rn_of q.2.2.1.1 q.2.2.1.2
              obtain ⟨bx, hbx⟩ := UX.nat_of q.2.2.2.1.1
              obtain ⟨by_, hby⟩ := UX.nat_of q.2.2.2.2.1.1
              obtain ⟨pq, hpq⟩ := UX.two_asked_q (show PyWrxtbb.two_asked a.1 a.2.1 a.2.2.1 a.2.2.2.1 a.2.2.2.2.1 = true from hask)
              refine ⟨[.int (UX.tnum oq), .int (pq.digits : Nat), .int (UX.rn rq), .int bx, .int by_], fun d => d = UX.lst (PyWrxtbb.two (UX.tnum oq) (pq.digits : Nat) (UX.rn rq) bx by_), rfl, ?_, ⟨oq, pq, rq, bx, by_, rfl, rfl⟩, fun d v H' hd s r => ?_⟩
              · rw [← hoq, ← hpq, ← hrq, ← hbx, ← hby]; exact .cons (.int _) (.cons (.int _) (.cons (.int _) (.cons (.int _) (.cons (.int _) .nil))))
              · rw [← hoq, ← hpq, ← hrq, ← hbx, ← hby] at hd; subst hd; exact UX.dw_ans r
#print axioms PySem.Challenge.cw_wideunit_s01_two_holds
