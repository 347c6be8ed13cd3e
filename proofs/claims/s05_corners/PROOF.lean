import PyProof.Rows.All
import Wide.All
import OpenK.AllK
import Wide.FinOn
import PyProof.EqAt
import PyProof.EqKinds
import PyProof.TupleCall
import KE.BitLaws
import Open.SpecLaws
import KE.OsHead
import KE.OsGo
import KE.KSortAsk
import KE.KSortKey
import KE.KLam
import PySem.Challenge.RW_sidesleft_s05_corners
section
-- CHANGE: your row's module here, as the last of these rows
set_option Elab.async false
set_option linter.all false
set_option maxRecDepth 100000
/-! THE HAND LAYER, for ints, bools, texts, own classes, lists, tuples, dicts, comprehensions, walks over dicts, enumerate, zip, reversed, texts, calls, loops. Paste it whole ahead of your own text; what your proof does not reach may be deleted. -/
namespace L2
open PySem PySem.Spec PyProof.Rows

/-- a key: an int or a str -/
abbrev Key := Sum Int Str
def keyIs : Key → Value → Bool
  | .inl k, v => Value.isInt k v
  | .inr x, v => Value.isStrOf x v
def keyH (w : World) : Key → Int
  | .inl k => hashInt k
  | .inr x => hashStr w x
theorem keyIs_shape : ∀ {k : Key} {v : Value}, keyIs k v = true → (∃ i t, k = Sum.inl i ∧ v = Value.int i t) ∨ (∃ x t, k = Sum.inr x ∧ v = Value.str x t)
  | .inl i, v, h => by
    obtain ⟨t, e⟩ := Value.isInt_shape (k := i) (v := v) h
    exact .inl ⟨i, t, rfl, e⟩
  | .inr x, v, h => by
    obtain ⟨t, e⟩ := Value.isStrOf_shape (x := x) (v := v) h
    exact .inr ⟨x, t, rfl, e⟩
theorem key_ll (a b : Int) : decide ((Sum.inl a : Key) = Sum.inl b) = (a == b) := by
  by_cases e : a = b
  · subst e; simp
  · have h : ¬ (Sum.inl a : Key) = Sum.inl b := fun q => e (Sum.inl.inj q)
    rw [decide_eq_false h]
    exact (beq_eq_false_iff_ne.mpr e).symm
theorem key_rr (a b : Str) : decide ((Sum.inr a : Key) = Sum.inr b) = decide (a = b) := by
  by_cases e : a = b
  · subst e; simp
  · have h : ¬ (Sum.inr a : Key) = Sum.inr b := fun q => e (Sum.inr.inj q)
    rw [decide_eq_false h, decide_eq_false e]
theorem key_lr (a : Int) (b : Str) : decide ((Sum.inl a : Key) = Sum.inr b) = false := decide_eq_false (fun q => nomatch q)
theorem key_rl (a : Str) (b : Int) : decide ((Sum.inr a : Key) = Sum.inl b) = false := decide_eq_false (fun q => nomatch q)

def mixKind (prog : Program) (w : World) : PySem.KeyKind prog w Key where
  is := keyIs
  hash := keyH w
  inj := fun v a b ha hb => by
    rcases keyIs_shape ha with ⟨i, t, rfl, rfl⟩ | ⟨x, t, rfl, rfl⟩
    · rcases keyIs_shape hb with ⟨j, u, rfl, e⟩ | ⟨y, u, rfl, e⟩
      · injection e with e1 _; rw [e1]
      · exact nomatch e
    · rcases keyIs_shape hb with ⟨j, u, rfl, e⟩ | ⟨y, u, rfl, e⟩
      · exact nomatch e
      · injection e with e1 _; rw [e1]
  byValue := fun k v h => by
    rcases keyIs_shape h with ⟨i, t, rfl, rfl⟩ | ⟨x, t, rfl, rfl⟩ <;> rfl
  pyHash := fun hv h => by
    rcases keyIs_shape hv with ⟨i, t, rfl, rfl⟩ | ⟨x, t, rfl, rfl⟩
    · exact wpAny_pyHash_int h
    · exact wpAny_pyHash_str h
  eqBool := fun hu hv h => by
    rcases keyIs_shape hu with ⟨i, t, rfl, rfl⟩ | ⟨x, t, rfl, rfl⟩
    · rcases keyIs_shape hv with ⟨j, u, rfl, rfl⟩ | ⟨y, u, rfl, rfl⟩
      · rw [key_ll] at h; exact wpAny_eqBool_int h
      · rw [key_lr] at h; exact SeqAt.EqAt.int_str i t y u _ _ _ _ h
    · rcases keyIs_shape hv with ⟨j, u, rfl, rfl⟩ | ⟨y, u, rfl, rfl⟩
      · rw [key_rl] at h; exact SeqAt.EqAt.str_int x t j u _ _ _ _ h
      · rw [key_rr] at h; exact wpAny_eqBool_str h
  «strs» := fun k x t v h => by
    rcases keyIs_shape h with ⟨i, u, rfl, e⟩ | ⟨y, u, rfl, e⟩
    · exact nomatch e
    · injection e with e1 _
      subst e1
      cases v <;> rfl

end L2

namespace L2
open PySem PySem.Spec PyProof.Rows

/-- a value, without the heap -/
inductive V where
  | non | bl (b : Bool) | int (i : Int) | str (x : Str) | byt (b : Array UInt8) | flt (b : UInt64) | ref (a : Addr) | ty (n : String)
  deriving DecidableEq

def RelV : V → Value → Prop
  | .non, u => u = Value.none
  | .bl b, u => u = Value.bool b
  | .int i, u => ∃ t, u = Value.int i t
  | .str x, u => ∃ t, u = Value.str x t
  | .byt b, u => ∃ t, u = Value.bytes b t
  | .flt b, u => ∃ t, u = Value.float b t
  | .ref a, u => u = Value.ref a
  | .ty n, u => u = Value.type n

abbrev Vals : List V → List Value → Prop := Paired RelV
theorem Vals.length {xs : List V} {us : List Value} (r : Vals xs us) : xs.length = us.length := Paired.length r
theorem Vals.get : ∀ {xs : List V} {us : List Value} {i : Nat} {x : V}, Vals xs us → xs[i]? = some x → ∃ u, us[i]? = some u ∧ RelV x u
  | _, _, _, _, .nil, e => by simp at e
  | _, _, 0, _, .cons r _, e => by simp at e; subst e; exact ⟨_, rfl, r⟩
  | _, _, i + 1, x, .cons _ t, e => by
    obtain ⟨u, h1, h2⟩ := Vals.get (i := i) (x := x) t (by simpa using e)
    exact ⟨u, by simpa using h1, h2⟩
theorem Vals.append : ∀ {xs ys : List V} {us ws : List Value}, Vals xs us → Vals ys ws → Vals (xs ++ ys) (us ++ ws)
  | _, _, _, _, .nil, s => s
  | _, _, _, _, .cons r t, s => .cons r (Vals.append t s)
theorem Vals.take : ∀ {xs : List V} {us : List Value} (n : Nat), Vals xs us → Vals (xs.take n) (us.take n)
  | _, _, 0, _ => .nil
  | _, _, _ + 1, .nil => .nil
  | _, _, n + 1, .cons r t => .cons r (Vals.take n t)
theorem Vals.drop : ∀ {xs : List V} {us : List Value} (n : Nat), Vals xs us → Vals (xs.drop n) (us.drop n)
  | _, _, 0, r => r
  | _, _, _ + 1, .nil => .nil
  | _, _, n + 1, .cons _ t => Vals.drop n t

def RelO : Option V → Option Value → Prop
  | some v, some u => RelV v u
  | none, none => True
  | _, _ => False
def KV {κ : Type} : List (κ × V) → List (κ × Value) → Prop := Paired fun (p : κ × V) (q : κ × Value) => p.1 = q.1 ∧ RelV p.2 q.2

/-- a key of a dict (00_mix): an int or a text -/
def kV : Key → V
  | .inl i => .int i
  | .inr x => .str x

/-- what stands at a tracked address -/
inductive HO where
  /-- a list -/
  | lst (xs : List V)
  /-- a tuple (never changes) -/
  | tup (xs : List V)
  /-- a dict whose keys are ints and texts; one whose keys are tuples of ints and texts (the empty one is both) -/
  | dK (kvs : List (Key × V)) | dT (kvs : List (List Key × V))
  /-- a set of ints: its members, its size -/
  | set (S : Int → Bool) (n : Nat)
  /-- an instance of the class at C, its dict at dx, its attributes -/
  | ins (C dx : Addr) (fs : List (Str × V))
  /-- the dict of the instance at x -/
  | own (x : Addr)
  /-- the dict of an exception -/
  | xd (fs : List (Str × V))
  /-- a bound method, f of x -/
  | met (f x : Addr)
  /-- a range object lo, lo + 1, .. below hi -/
  | rng (lo hi : Int)
  /-- a thing that is known to the object (the script; a dict while a loop walks it): read, never written while it is so -/
  | frz (o : Obj) (u : HO)
  /-- a code object's table -/
  | tbl (ps : Array Value)
  /-- any other thing, by what is true of its one object (a def of one's own: SetO a S n := HO.ext fun h => ..) -/
  | ext (φ : Heap → Prop)

abbrev Hp := Addr → Option HO
def upd (H : Hp) (a : Addr) (o : HO) : Hp := fun b => if b = a then some o else H b
theorem upd_same {H : Hp} {a : Addr} {o : HO} : upd H a o a = some o := by unfold upd; rw [if_pos rfl]
theorem upd_ne {H : Hp} {a b : Addr} {o : HO} (h : b ≠ a) : upd H a o b = H b := by unfold upd; rw [if_neg h]
theorem ne_of_none {H : Hp} {a b : Addr} {o : HO} (h : H a = some o) (h' : H b = none) : a ≠ b := by
  intro e; subst e; rw [h] at h'; cases h'

section
variable (P : Program) (w : World)
def ObjOk (H : Hp) (h : Heap) (a : Addr) : HO → Prop
  | .lst xs => xs.length ≤ sizeLine ∧ ∃ (its : List Value) (n : Nat), Vals xs its ∧ h.get? a = some { cls := .type "list", data := .seq its.toArray n }
  | .tup xs => xs.length ≤ sizeLine ∧ ∃ its : List Value, Vals xs its ∧ IsTup h a its.toArray
  | .dK kvs => kvs.length ≤ sizeLine ∧ (a == sysModules) = false ∧ ∃ vs, KV kvs vs ∧ h.DictOf (mixKind P w) a vs
  | .dT kvs => kvs.length ≤ sizeLine ∧ (a == sysModules) = false ∧ ∃ xs : List (List Key × Addr × Value),
      Paired (fun (p : List Key × V) (q : List Key × Addr × Value) => p.1 = q.1 ∧ H q.2.1 = some (.tup (p.1.map kV)) ∧ RelV p.2 q.2.2) kvs xs ∧
      ∃ o es ep, h.get? a = some o ∧ o.ExactDict ∧ o.data = .dict es ep ∧ es.toList = xs.map (entryOfKey (tupleKind (mixKind P w))) ∧ (xs.map (·.1)).Nodup
  | .set S n => h.SetOf (intKind P w) a S n
  | .ins C dx fs => H dx = some (.own a) ∧ fs.length ≤ 1000 ∧ dx ≠ a ∧ h.get? a = some (PySem.W.instObj C dx) ∧
      ∃ mA, h.Ns1 dx mA ∧ (∀ f, RelO (fs.lookup f) (mA f)) ∧ PySem.Within mA (fs.map (·.1))
  | .own _ => ∃ o, h.get? a = some o
  | .xd fs => ∃ mA, h.Ns1 a mA ∧ ∀ f, RelO (fs.lookup f) (mA f)
  | .rng lo hi => ∃ t u v, h.get? a = some { cls := .type "range", data := .fields #[.int lo t, .int hi u, .int 1 v] }
  | .frz o u => h.get? a = some o ∧ ObjOk H h a u
  | .tbl ps => h.get? a = some { cls := .none, data := .fields ps }
  | .met f x => h.get? a = some (PySem.W.methodObj (.ref f) (.ref x))
  | .ext φ => φ h ∧ (∃ o, h.get? a = some o) ∧ ∀ h1 h2 : Heap, φ h1 → (∀ o, h1.get? a = some o → h2.get? a = some o) → φ h2
/-- the abstract heap is held -/
def HOk (H : Hp) (h : Heap) : Prop := ∀ a o, H a = some o → ObjOk P w H h a o
end

section
variable {P : Program} {w : World} {H H' : Hp} {h h' : Heap} {a : Addr} {o : HO}
theorem ObjOk.lt (x : ObjOk P w H h a o) : a < h.objs.size := by
  cases o with
  | lst xs => obtain ⟨_, _, _, _, e⟩ := x; exact Heap.lt_size e
  | tup xs => obtain ⟨_, _, _, p⟩ := x; exact p.lt
  | dK kvs => obtain ⟨_, _, _, _, o, _, _, e, _⟩ := x; exact Heap.lt_size e
  | dT kvs => obtain ⟨_, _, _, _, o, _, _, e, _⟩ := x; exact Heap.lt_size e
  | set S n => obtain ⟨o, _, _, _, e, _⟩ := x; exact Heap.lt_size e
  | ins C dx fs => obtain ⟨_, _, _, e, _⟩ := x; exact Heap.lt_size e
  | own y => obtain ⟨_, e⟩ := x; exact Heap.lt_size e
  | xd fs => obtain ⟨_, ⟨_, _, _, e, _⟩, _⟩ := x; exact Heap.lt_size e
  | rng lo hi => obtain ⟨_, _, _, e⟩ := x; exact Heap.lt_size e
  | frz ob u => obtain ⟨e, _⟩ := x; exact Heap.lt_size e
  | tbl ps => exact Heap.lt_size (show h.get? a = some _ from x)
  | met f y => exact Heap.lt_size (show h.get? a = some _ from x)
  | ext φ => obtain ⟨_, ⟨_, e⟩, _⟩ := x; exact Heap.lt_size e
theorem Paired.mapP {α β : Type} {F G : α → β → Prop} : ∀ {l₁ : List α} {l₂ : List β}, Paired F l₁ l₂ → (∀ a b, F a b → G a b) → Paired G l₁ l₂
  | _, _, .nil, _ => .nil
  | _, _, .cons r t, f => .cons (f _ _ r) (Paired.mapP t f)
/-- what an object's description leans on: its own object, its own dict, the tuples -/
theorem ObjOk.stay (x : ObjOk P w H h a o) (k : ∀ b u, (b = a ∨ H b = some (.own a)) → h.get? b = some u → h'.get? b = some u)
    (ho : ∀ b, H b = some (.own a) → H' b = some (.own a)) (ht : ∀ b xs, H b = some (.tup xs) → H' b = some (.tup xs)) : ObjOk P w H' h' a o := by
  induction o with
  | lst xs => obtain ⟨z, its, n, r, e⟩ := x; exact ⟨z, its, n, r, k _ _ (.inl rfl) e⟩
  | tup xs => obtain ⟨z, its, r, ob, e, c⟩ := x; exact ⟨z, its, r, ob, k _ _ (.inl rfl) e, c⟩
  | dK kvs => obtain ⟨z, y, vs, r, ob, es, ep, e, c⟩ := x; exact ⟨z, y, vs, r, ob, es, ep, k _ _ (.inl rfl) e, c⟩
  | dT kvs =>
    obtain ⟨z, y, xs, r, ob, es, ep, e, c⟩ := x
    exact ⟨z, y, xs, Paired.mapP r fun p q z => ⟨z.1, ht _ _ z.2.1, z.2.2⟩, ob, es, ep, k _ _ (.inl rfl) e, c⟩
  | set S n => obtain ⟨ob, es, ep, t, e, c⟩ := x; exact ⟨ob, es, ep, t, k _ _ (.inl rfl) e, c⟩
  | ins C dx fs =>
    obtain ⟨d, z, ne, e, mA, ⟨od, es, ep, e2, c⟩, r⟩ := x
    exact ⟨ho _ d, z, ne, k _ _ (.inl rfl) e, mA, ⟨od, es, ep, k _ _ (.inr d) e2, c⟩, r⟩
  | own y => obtain ⟨ob, e⟩ := x; exact ⟨ob, k _ _ (.inl rfl) e⟩
  | xd fs => obtain ⟨mA, ⟨od, es, ep, e, c⟩, r⟩ := x; exact ⟨mA, ⟨od, es, ep, k _ _ (.inl rfl) e, c⟩, r⟩
  | rng lo hi => obtain ⟨t, u, v, e⟩ := x; exact ⟨t, u, v, k _ _ (.inl rfl) e⟩
  | frz ob u ih => obtain ⟨e, q⟩ := x; exact ⟨k _ _ (.inl rfl) e, ih q⟩
  | tbl ps =>
    have e : h.get? a = some { cls := .none, data := .fields ps } := x
    show h'.get? a = some { cls := .none, data := .fields ps }
    exact k a _ (.inl rfl) e
  | met f y =>
    have e : h.get? a = some (PySem.W.methodObj (.ref f) (.ref y)) := x
    show h'.get? a = some (PySem.W.methodObj (.ref f) (.ref y))
    exact k a _ (.inl rfl) e
  | ext φ => obtain ⟨p, ⟨o, e⟩, st⟩ := x; exact ⟨st _ _ p fun o q => k _ _ (.inl rfl) q, ⟨o, k _ _ (.inl rfl) e⟩, st⟩
theorem HOk.lt (x : HOk P w H h) (e : H a = some o) : a < h.objs.size := (x a o e).lt
theorem HOk.fresh (x : HOk P w H h) (e : h.objs.size ≤ a) : H a = none := by
  cases q : H a with
  | none => rfl
  | some u => exact absurd (Nat.lt_of_lt_of_le (x.lt q) e) (Nat.lt_irrefl _)
/-- every object of the heap is kept -/
theorem HOk.kept (x : HOk P w H h) (k : ∀ b u, h.get? b = some u → h'.get? b = some u) : HOk P w H h' := fun a o e =>
  (x a o e).stay (fun b u _ q => k b u q) (fun _ q => q) fun _ _ q => q
/-- a new object is laid and tracked -/
theorem HOk.laid (x : HOk P w H h) (k : ∀ b u, h.get? b = some u → h'.get? b = some u) (hp : h.objs.size ≤ a) (new : ObjOk P w (upd H a o) h' a o) : HOk P w (upd H a o) h' := fun b u e => by
  have hn := x.fresh hp
  by_cases hb : b = a
  · subst hb; rw [upd_same] at e; cases e; exact new
  · rw [upd_ne hb] at e
    exact (x b u e).stay (fun c v _ q => k c v q) (fun c q => by rw [upd_ne (ne_of_none q hn)]; exact q) fun c xs q => by rw [upd_ne (ne_of_none q hn)]; exact q
end

/-- what may be read as u: it is u, or a known u -/
def Rd (H : Hp) (a : Addr) (u : HO) : Prop := H a = some u ∨ ∃ o, H a = some (.frz o u)
theorem Rd.ok {P : Program} {w : World} {H : Hp} {h : Heap} {a : Addr} {u : HO} (r : Rd H a u) (x : HOk P w H h) : ObjOk P w H h a u := by
  rcases r with r | ⟨o, r⟩
  · exact x a u r
  · obtain ⟨_, q⟩ := x a _ r
    exact q
/-- what may be written -/
def Mut : Option HO → Prop
  | some (.lst _) => True
  | some (.dK _) => True
  | some (.dT _) => True
  | some (.set _ _) => True
  | some (.ins _ _ _) => True
  | some (.ext _) => True
  | _ => False
section
variable {P : Program} {w : World} {H : Hp} {h h' : Heap} {x e : Addr} {o' : HO}
/-- the object at e is changed: x itself, or the dict of the instance x -/
theorem HOk.write (ok : HOk P w H h) (mu : Mut (H x)) (he : e = x ∨ H e = some (.own x)) (k : ∀ b u, b ≠ e → h.get? b = some u → h'.get? b = some u) (heo : ∃ u, h'.get? e = some u)
    (new : ObjOk P w (upd H x o') h' x o') : HOk P w (upd H x o') h' := fun b u q => by
  have nown : ∀ c y, H c = some (.own y) → c ≠ x := fun c y r z => by subst z; rw [r] at mu; exact mu
  have ntup : ∀ c xs, H c = some (.tup xs) → c ≠ x := fun c xs r z => by subst z; rw [r] at mu; exact mu
  by_cases hb : b = x
  · subst hb; rw [upd_same] at q; cases q; exact new
  · rw [upd_ne hb] at q
    by_cases hbe : b = e
    · have q' : H b = some (.own x) := by
        rcases he with z | z
        · exact absurd (hbe.trans z) hb
        · rw [hbe]; exact z
      rw [q] at q'; cases q'
      obtain ⟨v, hv⟩ := heo
      exact ⟨v, by rw [hbe]; exact hv⟩
    · refine (ok b u q).stay (fun c v hc r => k c v ?_ r) (fun c r => by rw [upd_ne (nown c b r)]; exact r) fun c xs r => by rw [upd_ne (ntup c xs r)]; exact r
      rcases hc with rfl | hc
      · exact hbe
      · rintro rfl
        rcases he with z | z
        · exact nown c b hc z
        · rw [hc] at z; cases z; exact hb rfl
end

/-! ### kept unless tracked; of the frames at fs (the callers') the slots may change (an exception that passes writes there); of the records at ex (iterators) nothing is said -/
structure Un (fs ex : List Addr) (H H' : Hp) (h h' : Heap) : Prop where
  keep : ∀ b o, h.get? b = some o → H b = none → b ∉ fs → b ∉ ex → h'.get? b = some o
  slot : ∀ b o, h.get? b = some o → H b = none → b ∈ fs → b ∉ ex → ∃ sl, h'.get? b = some { o with slots := sl }
  free : ∀ b o, h.get? b = some o → H b = none → b ∉ ex → H' b = none
  there : ∀ b o, h.get? b = some o → b ∉ ex → ∃ o', h'.get? b = some o'
  tups : ∀ b xs, H b = some (.tup xs) → H' b = some (.tup xs)
  frzs : ∀ b o u, H b = some (.frz o u) → H' b = some (.frz o u)
  tbls : ∀ b ps, H b = some (.tbl ps) → ∃ more, H' b = some (.tbl (ps ++ more))
section
variable {fs fs' ex ex' : List Addr} {H H1 H2 : Hp} {h h1 h2 h' : Heap} {a x e : Addr} {o : HO}
theorem Un.any (u : Un fs ex H H1 h h1) {b : Addr} {ob : Obj} (q : h.get? b = some ob) (n : H b = none) (hx : b ∉ ex) : ∃ sl, h1.get? b = some { ob with slots := sl } := by
  by_cases hb : b ∈ fs
  · exact u.slot b ob q n hb hx
  · exact ⟨ob.slots, u.keep b ob q n hb hx⟩
theorem Un.kept (k : ∀ b u, h.get? b = some u → h'.get? b = some u) : Un fs ex H H h h' :=
  ⟨fun b ob q _ _ _ => k b ob q, fun b ob q _ _ _ => ⟨ob.slots, k b ob q⟩, fun _ _ _ n _ => n, fun b ob q _ => ⟨ob, k b ob q⟩, fun _ _ q => q, fun _ _ _ q => q, fun _ ps q => ⟨#[], by rw [q]; simp⟩⟩
theorem Un.refl : Un fs ex H H h h := Un.kept fun _ _ q => q
theorem Un.laid (k : ∀ b u, h.get? b = some u → h'.get? b = some u) (hp : h.objs.size ≤ a) (hn : H a = none) : Un fs ex H (upd H a o) h h' where
  keep := fun b u q _ _ _ => k b u q
  slot := fun b u q _ _ _ => ⟨u.slots, k b u q⟩
  free := fun b u q n _ => by rw [upd_ne (Nat.ne_of_lt (Nat.lt_of_lt_of_le (Heap.lt_size q) hp))]; exact n
  there := fun b u q _ => ⟨u, k b u q⟩
  tups := fun b xs q => by rw [upd_ne (ne_of_none q hn)]; exact q
  frzs := fun b u xs q => by rw [upd_ne (ne_of_none q hn)]; exact q
  tbls := fun b ps q => ⟨#[], by rw [upd_ne (ne_of_none q hn), q]; simp⟩
theorem Un.write (mu : Mut (H x)) (he : e = x ∨ H e = some (.own x)) (k : ∀ b u, b ≠ e → h.get? b = some u → h'.get? b = some u) (heo : ∃ u, h'.get? e = some u) : Un fs ex H (upd H x o) h h' := by
  have hx : ∀ b, H b = none → b ≠ x := fun b n z => by subst z; rw [n] at mu; exact mu
  have hb : ∀ b, H b = none → b ≠ e := fun b n z => by
    subst z
    rcases he with r | r
    · exact hx b n r
    · rw [n] at r; cases r
  have hm : ∀ b u, H b = some u → ¬ Mut (some u) → b ≠ x := fun b u q nm z => by subst z; rw [q] at mu; exact nm mu
  refine ⟨fun b u q n _ _ => k b u (hb b n) q, fun b u q n _ _ => ⟨u.slots, k b u (hb b n) q⟩, fun b u q n _ => by rw [upd_ne (hx b n)]; exact n, fun b u q _ => ?_,
    fun b xs q => by rw [upd_ne (hm b _ q fun z => z)]; exact q, fun b u xs q => by rw [upd_ne (hm b _ q fun z => z)]; exact q, fun b ps q => ⟨#[], by rw [upd_ne (hm b _ q fun z => z), q]; simp⟩⟩
  by_cases hbe : b = e
  · subst hbe; exact heo
  · exact ⟨u, k b u hbe q⟩
end

/-! ### the heap without what is tracked -/
def trk (h : Heap) (H : Hp) : List Addr := (List.range h.objs.size).filter fun a => (H a).isSome
def hidT (h : Heap) (H : Hp) : Heap := PySem.W.hideAll h (trk h H)
theorem hidT_size (h : Heap) (H : Hp) : (hidT h H).objs.size = h.objs.size := PySem.W.hideAll_size _ _
theorem hidT_get {h : Heap} {H : Hp} {b : Addr} {o : Obj} (e : h.get? b = some o) (n : H b = none) : (hidT h H).get? b = some o :=
  PySem.W.hideAll_get _ e fun hm => by
    have q : (H b).isSome = true := (List.mem_filter.mp hm).2
    rw [n] at q; simp at q
theorem of_hidT {h : Heap} {H : Hp} {b : Addr} {o : Obj} (e : (hidT h H).get? b = some o) : h.get? b = some o ∧ H b = none := by
  have e' : h.get? b = some o := PySem.W.of_hideAll (trk h H) e
  refine ⟨e', ?_⟩
  cases q : H b with
  | none => rfl
  | some x =>
    have hm : b ∈ trk h H := List.mem_filter.mpr ⟨List.mem_range.mpr (Heap.lt_size e'), by simp [q]⟩
    have z : (hidT h H).get? b = none := PySem.W.hideAll_none (trk h H) hm
    rw [z] at e; cases e

/-! ### OpenK's ledger, filled with every new object but one -/
def allNews (g h : Heap) (L : Addr) : List (Addr × Obj) := (List.range h.objs.size).filterMap fun a => if a = L ∨ (g.get? a).isSome = true then none else (h.get? a).map fun o => (a, o)
def rest (g h : Heap) (L d : Addr) : List (Addr × Obj) := (allNews g h L).filter fun p => decide (p.1 ≠ d)
end L2

namespace L2
open PySem PySem.Spec PyProof.Rows

/-- the module's facts, over the base: the heap at the law's entry without what is tracked there -/
structure Mod (K : PySem.W.Frag) (mg : Str → Option Value) (base : Heap) : Prop where
  kin : K.In base
  glob : base.Ns mainGlobals mg
  blt : ∃ mb, base.Ns builtinsNs mb ∧ ∀ x : Str, x ≠ "__name__" → mb x = bootBuiltins x
  nolimit : base.NoLimit

/-- the context: a def's body (or a comprehension's block) running. base: fixed through the whole law; s₀, H₀: the entry; outer: the frames whose slots others may change (a def's callers); stack: all frames that run;
   ex: iterators that were made ahead of the entry and are walked here (a comprehension's); fn: the names whose cells were made at the entry (a def: all; a comprehension's block: its own); calm: not within an except suite; pn: pins that every state bears; xe: what is wanted of an exception that leaves the code -/
structure Cx where
  prog : Program
  w : World
  K : PySem.W.Frag
  mg : Str → Option Value
  base : Heap
  A : Around
  N : List Str
  s_0 : Shared
  H_0 : Hp
  env : Env
  outer : List Env
  stack : List Env
  ex : List Addr
  fn : Str → Bool
  calm : Bool
  pn : List (Addr × Obj)
  xe : Value → Shared → Prop
/-- the callers' frames -/
def frs (l : List Env) : List Addr := l.filterMap (·.frame)
abbrev Cx.fs (X : Cx) : List Addr := frs X.outer

def Vis (sc : Scope) (x : Str) : Prop := sc.names.lookup x = some .local ∨ sc.names.lookup x = some .cell ∨ sc.names.lookup x = some .free
def Loc (sc : Scope) (x : Str) : Prop := sc.names.lookup x = some .local ∨ sc.names.lookup x = some .cell
def Look (env : Env) (h : Heap) (m : Str → Option Value) (x : Str) (u : Value) : Prop :=
  (env.kindOf x = some .local ∧ m x = some u) ∨ ((env.kindOf x = some .cell ∨ env.kindOf x = some .free) ∧ ∃ c, env.cells.lookup x = some c ∧ h.IsCell c (some u))

structure Cx.Ok (X : Cx) : Prop where
  mod : Mod X.K X.mg X.base
  kind : X.env.scope.kind = .function
  glob : X.env.globals = mainGlobals
  blt : X.env.builtins = builtinsNs
  above : X.s_0.heap.objs.size ≤ X.env.locals
  inj : ∀ x y c, X.env.cells.lookup x = some c → X.env.cells.lookup y = some c → x = y
  has : ∀ x, (X.env.kindOf x = some .cell ∨ X.env.kindOf x = some .free) → ∃ c, X.env.cells.lookup x = some c
  cab : ∀ x c, X.fn x = true → X.env.cells.lookup x = some c → X.s_0.heap.objs.size ≤ c
  hd : X.calm = true → X.A.handled = none
  frames : X.A.frames = some X.stack
  stk : X.stack = X.outer ∨ (X.stack = X.env :: X.outer ∧ X.env.frame = some X.env.locals)
  exf : ∀ b ∈ X.ex, b ≠ X.env.locals ∧ ∀ x c, X.env.cells.lookup x = some c → c ≠ b
  bs : ∀ b o, X.base.get? b = some o → X.s_0.heap.get? b = some o ∧ X.H_0 b = none
  bsz : X.base.objs.size ≤ X.s_0.heap.objs.size
  noex : ∀ b o, X.base.get? b = some o → b ∉ X.ex
  exfs : ∀ b ∈ X.ex, b ∉ X.fs
  funs : X.s_0.heap.FunFrames X.base X.outer
  frf : ∀ b ∈ X.fs, X.H_0 b = none

structure Inv (X : Cx) (pins : List (Addr × Obj)) (σ : List (Option V)) (H : Hp) (s : Shared) : Prop where
  ok : X.Ok
  os : s.os = X.s_0.os
  bare : AllBare s.gens
  base : Un X.fs X.ex X.H_0 H X.s_0.heap s.heap
  loc : ∃ m, s.heap.Ns X.env.locals m ∧ ∀ (i : Nat) (x : Str) (v : V), X.N[i]? = some x → σ[i]? = some (some v) → Vis X.env.scope x → ∃ u, RelV v u ∧ Look X.env s.heap m x u
  cell : ∀ x c, X.env.cells.lookup x = some c → ∃ v, s.heap.IsCell c v
  free : H X.env.locals = none
  freeC : ∀ x c, X.env.cells.lookup x = some c → H c = none
  pin : ∀ p ∈ X.pn ++ pins, s.heap.get? p.1 = some p.2 ∧ H p.1 = none ∧ p.1 ≠ X.env.locals ∧ p.1 ∉ X.fs ∧ ∀ v, p.2.data ≠ .cell v
  hok : HOk X.prog X.w H s.heap
  len : σ.length = X.N.length

section
variable {X : Cx} {pins : List (Addr × Obj)} {σ : List (Option V)} {H H' : Hp} {s : Shared} {h' : Heap}

theorem Cx.Ok.nofr (ok : X.Ok) {b : Addr} {o : Obj} (e : X.base.get? b = some o) : b ∉ X.fs := fun hb => by
  have := (ok.funs.mem hb).1
  rw [e] at this; cases this
theorem Inv.bs (I : Inv X pins σ H s) : ∀ b o, X.base.get? b = some o → s.heap.get? b = some o ∧ H b = none := fun b o e =>
  ⟨I.base.keep b o (I.ok.bs b o e).1 (I.ok.bs b o e).2 (I.ok.nofr e) (I.ok.noex b o e), I.base.free b o (I.ok.bs b o e).1 (I.ok.bs b o e).2 (I.ok.noex b o e)⟩
theorem Inv.bk (I : Inv X pins σ H s) : ∀ b o, X.base.get? b = some o → s.heap.get? b = some o := fun b o e => (I.bs b o e).1
theorem Inv.mod (I : Inv X pins σ H s) : Mod X.K X.mg X.base := I.ok.mod
theorem Inv.kIn (I : Inv X pins σ H s) : X.K.In s.heap := I.ok.mod.kin.keeps I.bk
theorem Inv.nolimit (I : Inv X pins σ H s) : s.heap.NoLimit := I.ok.mod.nolimit.keeps I.bk
theorem Inv.lt (I : Inv X pins σ H s) : X.env.locals < s.heap.objs.size := let ⟨_, hn, _⟩ := I.loc; hn.lt
theorem Inv.sz (I : Inv X pins σ H s) : X.s_0.heap.objs.size ≤ s.heap.objs.size := Nat.le_trans I.ok.above (Nat.le_of_lt I.lt)
theorem Inv.nofs (I : Inv X pins σ H s) {a : Addr} (h : s.heap.objs.size ≤ a) : a ∉ X.fs := fun hb => by
  obtain ⟨_, o, ho, _⟩ := I.ok.funs.mem hb
  exact absurd (Nat.lt_of_lt_of_le (Heap.lt_size ho) (Nat.le_trans I.sz h)) (Nat.lt_irrefl _)
theorem Inv.cne (I : Inv X pins σ H s) : ∀ x c, X.env.cells.lookup x = some c → c ≠ X.env.locals := fun x c e z => by
  obtain ⟨v, o, ho, hd⟩ := I.cell x c e
  obtain ⟨m, ⟨o', es, ep, ho', hd', _⟩, _⟩ := I.loc
  rw [z, ho'] at ho; cases ho; rw [hd'] at hd; cases hd
theorem Inv.funs (I : Inv X pins σ H s) : s.heap.FunFrames X.base X.outer := by
  have all : ∀ (l : List Env), (∀ b ∈ frs l, b ∈ X.fs) → X.s_0.heap.FunFrames X.base l → s.heap.FunFrames X.base l := by
    intro l
    induction l with
    | nil => intro _ _; trivial
    | cons env r ih =>
      intro hs hl
      obtain ⟨hk, ⟨L, o, hf, hn, ho, hd⟩, hr⟩ := hl
      have hL : L ∈ X.fs := hs L (by unfold frs; rw [List.filterMap_cons, hf]; exact List.mem_cons_self)
      obtain ⟨sl, e⟩ := I.base.slot L o ho (I.ok.frf L hL) hL fun z => I.ok.exfs L z hL
      exact ⟨hk, ⟨L, _, hf, hn, e, hd⟩, ih (fun b hb => hs b (by unfold frs; rw [List.filterMap_cons, hf]; exact List.mem_cons_of_mem _ hb)) hr⟩
  exact all X.outer (fun _ hb => hb) I.ok.funs

/-- the frames that run, for a call -/
theorem Inv.stack (I : Inv X pins σ H s) : s.heap.FunFrames X.base X.stack := by
  rcases I.ok.stk with e | ⟨e, hf⟩
  · rw [e]; exact I.funs
  · rw [e]
    obtain ⟨m, hn, _⟩ := I.loc
    refine .cons (by rw [I.ok.kind]; decide) hf hn ?_ I.funs
    exact Heap.get?_none_of_le (Nat.le_trans I.ok.bsz I.ok.above)
theorem Inv.stkSub (I : Inv X pins σ H s) : ∀ b ∈ frs X.stack, b ∈ X.env.locals :: X.fs := fun b hb => by
  rcases I.ok.stk with e | ⟨e, hf⟩
  · rw [e] at hb; exact List.mem_cons_of_mem _ hb
  · rw [e] at hb
    unfold frs at hb
    rw [List.filterMap_cons, hf] at hb
    exact hb
theorem Inv.stkFree (I : Inv X pins σ H s) : ∀ b ∈ frs X.stack, H b = none := fun b hb => by
  rcases List.mem_cons.mp (I.stkSub b hb) with e | hb
  · rw [e]; exact I.free
  · obtain ⟨_, o, ho, _⟩ := I.ok.funs.mem hb
    exact I.base.free b o ho (I.ok.frf b hb) fun z => I.ok.exfs b z hb

/-- THE STEP: the untracked objects but the frame and the records at ch are kept (the callers' frames up to slots), the frame's map is kept, the new abstract heap is held -/
theorem Inv.step {g' : Array GenState} {t' : Nat} {d' : Drawn} {ch : List Addr} (I : Inv X pins σ H s)
    (hch : ∀ b ∈ ch, (b ∈ X.ex ∨ X.s_0.heap.objs.size ≤ b) ∧ b ≠ X.env.locals ∧ (∀ x c, X.env.cells.lookup x = some c → c ≠ b) ∧ ∀ p ∈ X.pn ++ pins, p.1 ≠ b)
    (keep : ∀ b o, b ≠ X.env.locals → b ∉ X.fs → b ∉ ch → s.heap.get? b = some o → H b = none → h'.get? b = some o)
    (slot : ∀ b o, b ≠ X.env.locals → b ∈ X.fs → b ∉ ch → s.heap.get? b = some o → H b = none → ∃ sl, h'.get? b = some { o with slots := sl }) (free : ∀ b o, b ∉ ch → s.heap.get? b = some o → H b = none → H' b = none)
    (there : ∀ b o, b ∉ ch → s.heap.get? b = some o → ∃ o', h'.get? b = some o')
    (tups : ∀ b xs, H b = some (.tup xs) → H' b = some (.tup xs)) (frzs : ∀ b o u, H b = some (.frz o u) → H' b = some (.frz o u)) (tbls : ∀ b ps, H b = some (.tbl ps) → ∃ more, H' b = some (.tbl (ps ++ more)))
    (ns : ∀ m, s.heap.Ns X.env.locals m → h'.Ns X.env.locals m) (hok : HOk X.prog X.w H' h') (hg : AllBare g') :
    Inv X pins σ H' { s with heap := h', gens := g', drawn := d', toks := t' } := by
  have neL : ∀ b o, X.s_0.heap.get? b = some o → b ≠ X.env.locals := fun b o e => Nat.ne_of_lt (Nat.lt_of_lt_of_le (Heap.lt_size e) I.ok.above)
  have neC : ∀ b o, X.s_0.heap.get? b = some o → b ∉ X.ex → b ∉ ch := fun b o e hx hb => by
    rcases (hch b hb).1 with z | z
    · exact hx z
    · exact absurd (Nat.lt_of_lt_of_le (Heap.lt_size e) z) (Nat.lt_irrefl _)
  have cellK : ∀ x c, X.env.cells.lookup x = some c → ∀ v, s.heap.IsCell c v → h'.IsCell c v := fun x c e v ⟨o, ho, hd⟩ => by
    have nch : c ∉ ch := fun z => (hch c z).2.2.1 x c e rfl
    by_cases hc : c ∈ X.fs
    · obtain ⟨sl, q⟩ := slot c o (I.cne x c e) hc nch ho (I.freeC x c e)
      exact ⟨_, q, hd⟩
    · exact ⟨o, keep c o (I.cne x c e) hc nch ho (I.freeC x c e), hd⟩
  refine ⟨I.ok, I.os, hg, ⟨fun b o e n hb hx => ?_, fun b o e n hb hx => ?_, fun b o e n hx => ?_, fun b o e hx => ?_, fun b xs e => tups b xs (I.base.tups b xs e), fun b o xs e => frzs b o xs (I.base.frzs b o xs e), fun b ps e => ?_⟩, ?_, fun x c e => ?_, ?_, fun x c e => ?_, fun p hp => ?_, hok, I.len⟩
  · exact keep b o (neL b o e) hb (neC b o e hx) (I.base.keep b o e n hb hx) (I.base.free b o e n hx)
  · obtain ⟨sl, e1⟩ := I.base.slot b o e n hb hx
    obtain ⟨sl', e2⟩ := slot b _ (neL b o e) hb (neC b o e hx) e1 (I.base.free b o e n hx)
    exact ⟨sl', e2⟩
  · obtain ⟨o', e1⟩ := I.base.there b o e hx
    exact free b o' (neC b o e hx) e1 (I.base.free b o e n hx)
  · obtain ⟨o', e1⟩ := I.base.there b o e hx
    exact there b o' (neC b o e hx) e1
  · obtain ⟨m1, e1⟩ := I.base.tbls b ps e
    obtain ⟨m2, e2⟩ := tbls b _ e1
    exact ⟨m1 ++ m2, by rw [e2, Array.append_assoc]⟩
  · obtain ⟨m, hn, hl⟩ := I.loc
    refine ⟨m, ns m hn, fun i x v e1 e2 e3 => ?_⟩
    obtain ⟨u, r, l⟩ := hl i x v e1 e2 e3
    refine ⟨u, r, ?_⟩
    rcases l with l | ⟨k, c, e, z⟩
    · exact .inl l
    · exact .inr ⟨k, c, e, cellK x c e _ z⟩
  · obtain ⟨v, z⟩ := I.cell x c e
    exact ⟨v, cellK x c e v z⟩
  · obtain ⟨m, ⟨o, _, _, ho, _⟩, _⟩ := I.loc
    exact free _ o (fun z => (hch _ z).2.1 rfl) ho I.free
  · obtain ⟨v, o, ho, hd⟩ := I.cell x c e
    exact free c o (fun z => (hch c z).2.2.1 x c e rfl) ho (I.freeC x c e)
  · obtain ⟨e, n, ne, nf, d⟩ := I.pin p hp
    have nch : p.1 ∉ ch := fun z => (hch p.1 z).2.2.2 p hp rfl
    exact ⟨keep p.1 p.2 ne nf nch e n, free p.1 p.2 nch e n, ne, nf, d⟩
/-- .. where the frame's own object is kept too -/
theorem Inv.un {t' : Nat} (I : Inv X pins σ H s) (u : Un X.fs [] H H' s.heap h') (hok : HOk X.prog X.w H' h') : Inv X pins σ H' { s with heap := h', toks := t' } := by
  obtain ⟨m, ⟨o, es, ep, ho, r⟩, _⟩ := id I.loc
  obtain ⟨sl, hL⟩ := u.any ho I.free (by simp)
  exact I.step (g' := s.gens) (d' := s.drawn) (ch := []) (fun _ z => nomatch z) (fun b o _ hb _ e n => u.keep b o e n hb (by simp)) (fun b o _ hb _ e n => u.slot b o e n hb (by simp)) (fun b o _ e n => u.free b o e n (by simp)) (fun b o _ e => u.there b o e (by simp)) u.tups u.frzs u.tbls (fun m' hm => by
    obtain ⟨o', es', ep', ho', r'⟩ := hm
    rw [ho] at ho'; cases ho'
    exact ⟨_, es', ep', hL, r'⟩) hok I.bare
/-- behind a call (or a comprehension's block): the slots of this frame may have changed too, the records at ch may have turned -/
theorem Inv.call {g' : Array GenState} {t' : Nat} {d' : Drawn} {ch : List Addr} (I : Inv X pins σ H s) (u : Un (frs X.stack) ch H H' s.heap h') (hok : HOk X.prog X.w H' h') (hg : AllBare g')
    (hch : ∀ b ∈ ch, (b ∈ X.ex ∨ X.s_0.heap.objs.size ≤ b) ∧ b ≠ X.env.locals ∧ (∀ x c, X.env.cells.lookup x = some c → c ≠ b) ∧ ∀ p ∈ X.pn ++ pins, p.1 ≠ b) :
    Inv X pins σ H' { s with heap := h', gens := g', drawn := d', toks := t' } := by
  obtain ⟨m, ⟨o, es, ep, ho, r⟩, _⟩ := id I.loc
  obtain ⟨sl, hL⟩ := u.any ho I.free fun z => (hch _ z).2.1 rfl
  exact I.step (ch := ch) hch (fun b o hL hb hc e n => u.keep b o e n (fun z => (List.mem_cons.mp (I.stkSub b z)).elim hL hb) hc) (fun b o _ _ hc e n => u.any e n hc) (fun b o hc e n => u.free b o e n hc) (fun b o hc e => u.there b o e hc) u.tups u.frzs u.tbls (fun m' hm => by
    obtain ⟨o', es', ep', ho', r'⟩ := hm
    rw [ho] at ho'; cases ho'
    exact ⟨_, es', ep', hL, r'⟩) hok hg
/-- an untracked record of ours (an iterator) has turned -/
theorem Inv.turned {t' : Nat} {it : Addr} (I : Inv X pins σ H s) (k : ∀ b o, b ≠ it → s.heap.get? b = some o → h'.get? b = some o) (hn : H it = none) (hL : it ≠ X.env.locals)
    (h1 : it ∈ X.ex ∨ X.s_0.heap.objs.size ≤ it) (h2 : ∀ x c, X.env.cells.lookup x = some c → c ≠ it) (h3 : ∀ p ∈ X.pn ++ pins, p.1 ≠ it) : Inv X pins σ H { s with heap := h', toks := t' } := by
  have nit : ∀ b u, H b = some u → b ≠ it := fun b u e z => by rw [z, hn] at e; cases e
  refine I.step (g' := s.gens) (d' := s.drawn) (ch := [it]) (fun b hb => ?_) (fun b o _ _ hc e _ => k b o (fun z => hc (by simp [z])) e) (fun b o _ _ hc e _ => ⟨o.slots, k b o (fun z => hc (by simp [z])) e⟩) (fun _ _ _ _ n => n)
    (fun b o hc e => ⟨o, k b o (fun z => hc (by simp [z])) e⟩) (fun _ _ e => e) (fun _ _ _ e => e) (fun b ps e => ⟨#[], by rw [e]; simp⟩) (fun m hm => ?_) (fun b u e => ?_) I.bare
  · have e : b = it := by simpa using hb
    subst e
    exact ⟨h1, hL, h2, h3⟩
  · obtain ⟨o, es, ep, ho, r⟩ := hm
    exact ⟨o, es, ep, k _ o (Ne.symm hL) ho, r⟩
  · refine (I.hok b u e).stay (fun c v hc q => k c v ?_ q) (fun _ q => q) fun _ _ q => q
    rcases hc with z | z
    · rw [z]; exact nit b u e
    · exact nit c _ z
theorem Inv.tok (I : Inv X pins σ H s) (t : Nat) : Inv X pins σ H { s with toks := t } := I.un (h' := s.heap) (t' := t) Un.refl I.hok
/-- all objects kept -/
theorem Inv.kept {t' : Nat} (I : Inv X pins σ H s) (k : ∀ b u, s.heap.get? b = some u → h'.get? b = some u) : Inv X pins σ H { s with heap := h', toks := t' } := I.un (Un.kept k) (I.hok.kept k)
/-- a new object laid and tracked -/
theorem Inv.laid {a : Addr} {o : HO} {t' : Nat} (I : Inv X pins σ H s) (k : ∀ b u, s.heap.get? b = some u → h'.get? b = some u) (hp : s.heap.objs.size ≤ a) (new : ObjOk X.prog X.w (upd H a o) h' a o) :
    Inv X pins σ (upd H a o) { s with heap := h', toks := t' } := I.un (Un.laid k hp (I.hok.fresh hp)) (I.hok.laid k hp new)
/-- an object written -/
theorem Inv.write {x e : Addr} {o : HO} {t' : Nat} (I : Inv X pins σ H s) (mu : Mut (H x)) (he : e = x ∨ H e = some (.own x)) (k : ∀ b u, b ≠ e → s.heap.get? b = some u → h'.get? b = some u) (heo : ∃ u, h'.get? e = some u)
    (new : ObjOk X.prog X.w (upd H x o) h' x o) : Inv X pins σ (upd H x o) { s with heap := h', toks := t' } := I.un (Un.write mu he k heo) (I.hok.write mu he k heo new)
/-- forgetting slots, pins -/
theorem Inv.weak {σ' : List (Option V)} (I : Inv X pins σ H s) (hl : σ'.length = σ.length) (w : ∀ (i : Nat) v, σ'[i]? = some (some v) → σ[i]? = some (some v)) : Inv X pins σ' H s :=
  ⟨I.ok, I.os, I.bare, I.base, let ⟨m, hn, hl'⟩ := I.loc; ⟨m, hn, fun i x v e1 e2 e3 => hl' i x v e1 (w i v e2) e3⟩, I.cell, I.free, I.freeC, I.pin, I.hok, hl.trans I.len⟩
theorem Inv.pins_of {pins' : List (Addr × Obj)} (I : Inv X pins σ H s) (h : ∀ p ∈ pins', s.heap.get? p.1 = some p.2 ∧ H p.1 = none ∧ p.1 ≠ X.env.locals ∧ p.1 ∉ X.fs ∧ ∀ v, p.2.data ≠ .cell v) : Inv X pins' σ H s :=
  ⟨I.ok, I.os, I.bare, I.base, I.loc, I.cell, I.free, I.freeC, fun p hp => (List.mem_append.mp hp).elim (fun z => I.pin p (List.mem_append_left _ z)) (h p), I.hok, I.len⟩

theorem nodup_ix {N : List Str} (hN : N.Nodup) {i j : Nat} {x : Str} (a : N[i]? = some x) (b : N[j]? = some x) : i = j := by
  obtain ⟨h1, e1⟩ := List.getElem?_eq_some_iff.mp a
  obtain ⟨h2, e2⟩ := List.getElem?_eq_some_iff.mp b
  exact (List.getElem_inj hN).mp (e1.trans e2.symm)

/-- a name is stored; what changed -/
theorem store_ok2 {M : Model} {A : Around} {E : Value → Shared → Prop} {i : Nat} {x : Str} {v : V} {u : Value} {Q : Unit → Shared → Prop} (I : Inv X pins σ H s) (hN : X.N.Nodup) (hi : X.N[i]? = some x) (hx : Loc X.env.scope x) (r : RelV v u)
    (h : ∀ s', Inv X pins (σ.set i (some v)) H s' → (∃ a, Heap.SameBut a s.heap s'.heap ∧ (a = X.env.locals ∨ X.env.cells.lookup x = some a)) → Q () s') (hf : X.fn x = true ∨ X.env.scope.names.lookup x = some .local := by first | exact .inl rfl | exact .inr rfl | assumption) : wpAny M A (storeName X.env x u) Q E s := by
  obtain ⟨m, hn, hl⟩ := id I.loc
  have hcls : (X.env.scope.kind == .class || (X.env.scope.kind == .module && X.env.locals != X.env.globals)) = false := by rw [I.ok.kind]; rfl
  have hiσ : i < σ.length := by rw [I.len]; exact (List.getElem?_eq_some_iff.mp hi).1
  have cne := I.cne
  have tracked : ∀ {a : Addr} {h' : Heap}, (∃ o, s.heap.get? a = some o ∧ H a = none) → Heap.SameBut a s.heap h' → HOk X.prog X.w H h' := fun {a h'} ha hs b ob e => by
    obtain ⟨_, _, hfree⟩ := ha
    refine (I.hok b ob e).stay (fun c w' hc q => (hs.2 c ?_).trans q) (fun _ q => q) fun _ _ q => q
    rintro rfl
    rcases hc with rfl | hc
    · rw [hfree] at e; cases e
    · rw [hfree] at hc; cases hc
  rcases hx with hk | hk
  · refine wpAny_storeName_local hk hn (fun h' hn' hs => ?_) hcls
    obtain ⟨oL, _, _, hoL, _⟩ := id hn
    refine h _ ⟨I.ok, I.os, I.bare, ⟨fun b o e n hb hx => ?_, fun b o e n hb hx => ?_, I.base.free, fun b o e hx => ?_, I.base.tups, I.base.frzs, I.base.tbls⟩, ⟨_, hn', fun j y v' e1 e2 e3 => ?_⟩, fun y c e => ?_, I.free, I.freeC, fun p hp => ?_, tracked ⟨oL, hoL, I.free⟩ hs, by simpa using I.len⟩ ⟨_, hs, .inl rfl⟩
    · exact (hs.2 b (Nat.ne_of_lt (Nat.lt_of_lt_of_le (Heap.lt_size e) I.ok.above))).trans (I.base.keep b o e n hb hx)
    · obtain ⟨sl, e1⟩ := I.base.slot b o e n hb hx
      exact ⟨sl, (hs.2 b (Nat.ne_of_lt (Nat.lt_of_lt_of_le (Heap.lt_size e) I.ok.above))).trans e1⟩
    · obtain ⟨o', e1⟩ := I.base.there b o e hx
      exact ⟨o', (hs.2 b (Nat.ne_of_lt (Nat.lt_of_lt_of_le (Heap.lt_size e) I.ok.above))).trans e1⟩
    · by_cases hj : j = i
      · subst hj
        rw [hi] at e1; cases e1
        rw [List.getElem?_set_self hiσ] at e2
        cases e2
        exact ⟨u, r, .inl ⟨hk, by simp⟩⟩
      · rw [List.getElem?_set_ne (Ne.symm hj)] at e2
        obtain ⟨u', r', q⟩ := hl j y v' e1 e2 e3
        refine ⟨u', r', ?_⟩
        rcases q with ⟨k, e⟩ | ⟨k, c, e, z⟩
        · refine .inl ⟨k, ?_⟩
          have : y ≠ x := fun e => hj (nodup_ix hN e1 (e ▸ hi))
          simp [this, e]
        · exact .inr ⟨k, c, e, z.sameBut hs (cne y c e)⟩
    · obtain ⟨w', z⟩ := I.cell y c e
      exact ⟨w', z.sameBut hs (cne y c e)⟩
    · obtain ⟨e, n, ne, nf, d⟩ := I.pin p hp
      exact ⟨(hs.2 p.1 ne).trans e, n, ne, nf, d⟩
  · have hfn : X.fn x = true := by
      rcases hf with z | z
      · exact z
      · rw [z] at hk; cases hk
    obtain ⟨c, hc⟩ := I.ok.has x (.inl hk)
    obtain ⟨w', z⟩ := I.cell x c hc
    refine wpAny_storeName_cell I.ok.kind hk hc z (fun h' hc' hs => ?_)
    obtain ⟨oc, hoc, hocd⟩ := id z
    refine h { s with heap := h' } ⟨I.ok, I.os, I.bare, ⟨fun b o e n hb hx => ?_, fun b o e n hb hx => ?_, I.base.free, fun b o e hx => ?_, I.base.tups, I.base.frzs, I.base.tbls⟩, ⟨m, hn.sameBut hs (Ne.symm (cne x c hc)), fun j y v' e1 e2 e3 => ?_⟩, fun y c' e => ?_, I.free, I.freeC, fun p hp => ?_, tracked ⟨oc, hoc, I.freeC x c hc⟩ hs, by simpa using I.len⟩ ⟨c, hs, .inr hc⟩
    · exact (hs.2 b (Nat.ne_of_lt (Nat.lt_of_lt_of_le (Heap.lt_size e) (I.ok.cab x c hfn hc)))).trans (I.base.keep b o e n hb hx)
    · obtain ⟨sl, e1⟩ := I.base.slot b o e n hb hx
      exact ⟨sl, (hs.2 b (Nat.ne_of_lt (Nat.lt_of_lt_of_le (Heap.lt_size e) (I.ok.cab x c hfn hc)))).trans e1⟩
    · obtain ⟨o', e1⟩ := I.base.there b o e hx
      exact ⟨o', (hs.2 b (Nat.ne_of_lt (Nat.lt_of_lt_of_le (Heap.lt_size e) (I.ok.cab x c hfn hc)))).trans e1⟩
    · by_cases hj : j = i
      · subst hj
        rw [hi] at e1; cases e1
        rw [List.getElem?_set_self hiσ] at e2
        cases e2
        exact ⟨u, r, .inr ⟨.inl hk, c, hc, hc'⟩⟩
      · rw [List.getElem?_set_ne (Ne.symm hj)] at e2
        obtain ⟨u', r', q⟩ := hl j y v' e1 e2 e3
        refine ⟨u', r', ?_⟩
        rcases q with q | ⟨k, c', e, z'⟩
        · exact .inl q
        · refine .inr ⟨k, c', e, z'.sameBut hs ?_⟩
          rintro rfl
          exact hj (nodup_ix hN e1 (I.ok.inj _ _ _ e hc ▸ hi))
    · by_cases hcc : c' = c
      · subst hcc; exact ⟨_, hc'⟩
      · obtain ⟨w2, z2⟩ := I.cell y c' e
        exact ⟨w2, z2.sameBut hs hcc⟩
    · obtain ⟨e, n, ne, nf, d⟩ := I.pin p hp
      refine ⟨(hs.2 p.1 ?_).trans e, n, ne, nf, d⟩
      intro q
      rw [q, hoc] at e
      have q' : oc = p.2 := Option.some.inj e
      exact d w' (by rw [← q']; exact hocd)
theorem store_ok {M : Model} {A : Around} {E : Value → Shared → Prop} {i : Nat} {x : Str} {v : V} {u : Value} {Q : Unit → Shared → Prop} (I : Inv X pins σ H s) (hN : X.N.Nodup) (hi : X.N[i]? = some x) (hx : Loc X.env.scope x) (r : RelV v u)
    (h : ∀ s', Inv X pins (σ.set i (some v)) H s' → Q () s') (hf : X.fn x = true ∨ X.env.scope.names.lookup x = some .local := by first | exact .inl rfl | exact .inr rfl | assumption) : wpAny M A (storeName X.env x u) Q E s :=
  store_ok2 I hN hi hx r (fun s' I' _ => h s' I') hf
/-- behind a call or a block, the state as it is -/
theorem Inv.call' {s' : Shared} {ch : List Addr} (I : Inv X pins σ H s) (ho : s'.os = s.os) (u : Un (frs X.stack) ch H H' s.heap s'.heap) (hok : HOk X.prog X.w H' s'.heap) (hg : AllBare s'.gens)
    (hch : ∀ b ∈ ch, (b ∈ X.ex ∨ X.s_0.heap.objs.size ≤ b) ∧ b ≠ X.env.locals ∧ (∀ x c, X.env.cells.lookup x = some c → c ≠ b) ∧ ∀ p ∈ X.pn ++ pins, p.1 ≠ b) : Inv X pins σ H' s' := by
  obtain ⟨h', g', d', t', o'⟩ := s'
  have e : o' = s.os := ho
  subst e
  exact I.call (g' := g') (t' := t') (d' := d') u hok hg hch
end

/-! ### the judgements -/
/-- an exception: its class, its own dict's address (where it has one), the abstract heap behind it -/
abbrev XK := Value → Option Addr → Hp → Prop
abbrev St := List (Option V)
abbrev VK := V → Hp → Prop
/-- an expression's reading; a test's; an argument list's -/
abbrev TE := St → Hp → VK → Prop
abbrev TT := St → Hp → (Bool → Hp → Prop) → Prop
abbrev TA := St → Hp → (List V → Hp → Prop) → Prop
/-- what is wanted behind a statement -/
structure Ends where
  nx : St → Hp → Prop
  rt : VK
  bk : St → Hp → Prop := fun _ _ => False
  ct : St → Hp → Prop := fun _ _ => False
abbrev TS := Ends → St → Hp → Prop

def EP (X : Cx) (pins : List (Addr × Obj)) (σ : St) (Q : VK) (u : Value) (s' : Shared) : Prop := ∃ v H', Inv X pins σ H' s' ∧ RelV v u ∧ Q v H'
def TP (X : Cx) (pins : List (Addr × Obj)) (σ : St) (Q : Bool → Hp → Prop) (b : Bool) (s' : Shared) : Prop := ∃ H', Inv X pins σ H' s' ∧ Q b H'
def AP (X : Cx) (pins : List (Addr × Obj)) (σ : St) (Q : List V → Hp → Prop) (us : List Value) (s' : Shared) : Prop := ∃ vs H', Inv X pins σ H' s' ∧ Vals vs us ∧ Q vs H'
def SP (X : Cx) (pins : List (Addr × Obj)) (D : Ends) (f : Flow) (s' : Shared) : Prop :=
  match f with
  | .next => ∃ σ' H', Inv X pins σ' H' s' ∧ D.nx σ' H'
  | .brk => ∃ σ' H', Inv X pins σ' H' s' ∧ D.bk σ' H'
  | .cont => ∃ σ' H', Inv X pins σ' H' s' ∧ D.ct σ' H'
  | .ret u => ∃ v σ' H', Inv X pins σ' H' s' ∧ RelV v u ∧ D.rt v H'

def PE (X : Cx) (e : Expr) (t : TE) : Prop :=
  ∀ (pins : List (Addr × Obj)) (s : Shared) (σ : St) (H : Hp) (Q : VK), Inv X pins σ H s → t σ H Q → wpAny (model X.prog X.w) X.A (eval e X.env) (EP X pins σ Q) X.xe s
def PT (X : Cx) (e : Expr) (t : TT) : Prop :=
  ∀ (pins : List (Addr × Obj)) (s : Shared) (σ : St) (H : Hp) (Q : Bool → Hp → Prop), Inv X pins σ H s → t σ H Q → wpAny (model X.prog X.w) X.A (isTrue e X.env (eval e X.env)) (TP X pins σ Q) X.xe s
/-- a test whatever its 'whole' is (and, or) -/
def PW (X : Cx) (e : Expr) (t : TT) : Prop :=
  ∀ (whole : Sem Value) (pins : List (Addr × Obj)) (s : Shared) (σ : St) (H : Hp) (Q : Bool → Hp → Prop), Inv X pins σ H s → t σ H Q → wpAny (model X.prog X.w) X.A (isTrue e X.env whole) (TP X pins σ Q) X.xe s
theorem PW.pt {X : Cx} {e : Expr} {t : TT} (h : PW X e t) : PT X e t := h _
/-- an argument list (no star), from the left -/
def PA (X : Cx) (es : List Expr) (t : TA) : Prop :=
  ∀ (pos : Pos) (pins : List (Addr × Obj)) (s : Shared) (σ : St) (H : Hp) (Q : List V → Hp → Prop), Inv X pins σ H s → t σ H Q → wpAny (model X.prog X.w) X.A (spliced (backTo pos (starEach es X.env))) (AP X pins σ Q) X.xe s
def PS (X : Cx) (st : Stmt) (t : TS) : Prop :=
  ∀ (pins : List (Addr × Obj)) (s : Shared) (σ : St) (H : Hp) (D : Ends), Inv X pins σ H s → t D σ H → wpAny (model X.prog X.w) X.A (exec st X.env) (SP X pins D) X.xe s
def PSs (X : Cx) (st : List Stmt) (t : TS) : Prop :=
  ∀ (pins : List (Addr × Obj)) (s : Shared) (σ : St) (H : Hp) (D : Ends), Inv X pins σ H s → t D σ H → wpAny (model X.prog X.w) X.A (execs st X.env) (SP X pins D) X.xe s
/-- weaken the end -/
theorem thn {α : Type} {t : Sem α} {Q Q' : α → Shared → Prop} {M : Model} {A : Around} {E : Value → Shared → Prop} {s : Shared} (h : wpAny M A t Q E s) (hQ : ∀ a s, Q a s → Q' a s) : wpAny M A t Q' E s := wpAny_mono h hQ fun _ _ x => x
end L2

namespace L2
open PySem PySem.Spec PyProof.Rows
section
variable {X : Cx}


/-! ### names and constants -/
def tVar (i : Nat) : TE := fun σ H Q => ∃ v, σ[i]? = some (some v) ∧ Q v H
def tC (v : V) : TE := fun _ H Q => Q v H
theorem pe_var {i : Nat} {x : Str} {pos : Pos} (hN : X.N[i]? = some x) (hv : Vis X.env.scope x) (hd : (x == ("__debug__" : Str)) = false := by decide) (hcd : (x == ("__classdict__" : Str)) = false := by decide) : PE X (.Name x pos) (tVar i) := by
  intro pins s σ H Q I h
  obtain ⟨v, e, h⟩ := h
  obtain ⟨m, hn, hl⟩ := I.loc
  obtain ⟨u, r, l⟩ := hl i x v hN e hv
  have fin : EP X pins σ Q u s := ⟨v, H, I, r, h⟩
  rcases l with ⟨hk, hm⟩ | ⟨hk, c, hc, hcell⟩
  · exact wpAny_Name (wpAny_loadName_local I.ok.kind hk hn hm fin) hd
  · rcases hk with hk | hk
    · exact wpAny_Name (wpAny_loadName_cell I.ok.kind hk hc hcell fin) hd
    · exact wpAny_Name (wpAny_loadName_free I.ok.kind hk hc hcell fin hcd) hd
theorem pe_int {i j pos} : PE X (.Constant (.int i) j pos) (tC (.int i)) := fun _ _ _ H _ I h => wpAny_Constant_int ⟨.int i, H, I.tok _, ⟨_, rfl⟩, h⟩
theorem pe_non {j pos} : PE X (.Constant .none j pos) (tC .non) := fun _ _ _ H _ I h => Constant_none ⟨.non, H, I, rfl, h⟩

/-- a global name of the def -/
def Gl (X : Cx) (x : Str) : Prop := X.env.kindOf x = some .globalImplicit
theorem ld_glob {E : Value → Shared → Prop} {pins : List (Addr × Obj)} {s : Shared} {σ : St} {H : Hp} {x : Str} {u : Value} {pos : Pos} {Q : Value → Shared → Prop} (I : Inv X pins σ H s) (hg : Gl X x) (hm : X.mg x = some u) (h : Q u s)
    (hd : (x == ("__debug__" : Str)) = false := by decide) : wpAny (model X.prog X.w) X.A (eval (.Name x pos) X.env) Q E s :=
  Calls.Name_function_global I.ok.kind hg (Calls.loadGlobal_global (by rw [I.ok.glob]; exact I.mod.glob.keeps I.bk) hm h) hd
theorem ld_blt {E : Value → Shared → Prop} {pins : List (Addr × Obj)} {s : Shared} {σ : St} {H : Hp} {x : Str} {u : Value} {pos : Pos} {Q : Value → Shared → Prop} (I : Inv X pins σ H s) (hg : Gl X x) (hm : X.mg x = none) (hv : bootBuiltins x = some u) (h : Q u s)
    (hn : x ≠ "__name__" := by decide) (hd : (x == ("__debug__" : Str)) = false := by decide) : wpAny (model X.prog X.w) X.A (eval (.Name x pos) X.env) Q E s := by
  obtain ⟨mb, h1, h2⟩ := I.mod.blt
  exact Calls.Name_function_global I.ok.kind hg (Calls.loadGlobal_builtin (by rw [I.ok.glob]; exact I.mod.glob.keeps I.bk) hm (by rw [I.ok.blt]; exact h1.keeps I.bk) ((h2 x hn).trans hv) h) hd
/-- a module's constant, a class, a function, as a value -/
theorem pe_glob {x : Str} {v : V} {u : Value} {pos : Pos} (hg : Gl X x) (hm : X.mg x = some u) (r : RelV v u) (hd : (x == ("__debug__" : Str)) = false := by decide) : PE X (.Name x pos) (tC v) :=
  fun _ _ _ H _ I h => ld_glob I hg hm ⟨v, H, I, r, h⟩ hd

/-! ### arithmetic -/
/-- two ints -/
def t2I (ta tb : TE) (k : Int → Int → Hp → Prop) : St → Hp → Prop := fun σ H => ta σ H fun x H1 => tb σ H1 fun y H2 => ∃ i j, x = .int i ∧ y = .int j ∧ k i j H2
def tAdd (ta tb : TE) : TE := fun σ H Q => t2I ta tb (fun i j H2 => Q (.int (i + j)) H2) σ H
def tSub (ta tb : TE) : TE := fun σ H Q => t2I ta tb (fun i j H2 => Q (.int (i - j)) H2) σ H
/-- the left factor below 2^64 -/
def tMul (ta tb : TE) : TE := fun σ H Q => t2I ta tb (fun i j H2 => (-(2 ^ 64) < i ∧ i < 2 ^ 64) ∧ Q (.int (i * j)) H2) σ H
variable {a b : Expr} {ta tb : TE} {pos : Pos}

/-! ### comparisons -/
def PC (X : Cx) (op : CmpOp) (a b : Expr) (t : TE) : Prop :=
  ∀ (pins : List (Addr × Obj)) (s : Shared) (σ : St) (H : Hp) (Q : VK), Inv X pins σ H s → t σ H Q →
    wpAny (model X.prog X.w) X.A (eval a X.env) (fun v s₁ => wpAny (model X.prog X.w) X.A (eval b X.env) (fun u s₂ => wpAny (model X.prog X.w) X.A (compareOp op v u) (EP X pins σ Q) X.xe s₂) X.xe s₁) X.xe s
def tCmp (p : Int → Int → Bool) (ta tb : TE) : TE := fun σ H Q => t2I ta tb (fun i j H2 => Q (.bl (p i j)) H2) σ H
abbrev tLt : TE → TE → TE := tCmp fun i j => decide (i < j)
abbrev tLe : TE → TE → TE := tCmp fun i j => decide (i ≤ j)
abbrev tGt : TE → TE → TE := tCmp fun i j => decide (j < i)
abbrev tGe : TE → TE → TE := tCmp fun i j => decide (j ≤ i)
abbrev tEqI : TE → TE → TE := tCmp fun i j => decide (i = j)
abbrev tNeI : TE → TE → TE := tCmp fun i j => !decide (i = j)
/-- is None -/
def tIsN (ta : TE) : TE := fun σ H Q => ta σ H fun x H1 => Q (.bl (decide (x = .non))) H1
def tNotN (ta : TE) : TE := fun σ H Q => ta σ H fun x H1 => Q (.bl (!decide (x = .non))) H1
/-- a comparison as a value, as a test -/
def tB (t : TE) : TT := fun σ H Q => t σ H fun x H1 => ∃ c, x = .bl c ∧ Q c H1
/-- an expression whose value is a bool, as a test -/
theorem pt_val {e : Expr} {t : TE} (h : PE X e t) (he : ∀ whole, isTrue e X.env whole = (do let v ← whole; standAt e.pos; holding [v] (truthy v)) := by intro _; rfl) : PT X e (tB t) := by
  intro pins s σ H Q I hw
  refine isTrue_plain (thn (h pins s σ H _ I hw) fun v s1 ⟨x, H1, I1, r1, q1⟩ => ?_) (he _)
  obtain ⟨d, rfl, q⟩ := q1
  cases r1
  exact wpAny_truthy_bool ⟨H1, I1, q⟩

/-! ### and, or, not -/
variable {tA tB' : TT} {rest : List Expr}
def tAnd (t u : TT) : TT := fun σ H Q => t σ H fun c H1 => if c = true then u σ H1 Q else Q false H1
def tOr (t u : TT) : TT := fun σ H Q => t σ H fun c H1 => if c = true then Q true H1 else u σ H1 Q
def tNot (t : TT) : TT := fun σ H Q => t σ H fun c H1 => Q (!c) H1
theorem pw_and1 (ha : PT X a tA) : PW X (.BoolOp .And [a] pos) tA := by
  intro wh pins s σ H Q I h
  refine isTrue_and (thn (ha pins s σ H Q I h) fun c s1 e => ?_)
  cases c with
  | true => exact isTrue_and_nil e
  | false => exact e
theorem pw_and (ha : PT X a tA) (hb : PW X (.BoolOp .And (b :: rest) pos) tB') : PW X (.BoolOp .And (a :: b :: rest) pos) (tAnd tA tB') := by
  intro wh pins s σ H Q I h
  refine isTrue_and (thn (ha pins s σ H _ I h) fun c s1 ⟨H1, I1, q1⟩ => ?_)
  cases c with
  | true => exact hb wh pins s1 σ H1 Q I1 q1
  | false => exact ⟨H1, I1, q1⟩
theorem pt_not (ha : PT X a tA) : PT X (.UnaryOp .Not a pos) (tNot tA) := by
  intro pins s σ H Q I h
  exact isTrue_not (ha pins s σ H (fun c H1 => Q (!c) H1) I h)
/-- .. as values (bools) -/
def tAndV (ta tb : TE) : TE := fun σ H Q => ta σ H fun x H1 => ∃ c, x = .bl c ∧ if c = true then tb σ H1 Q else Q (.bl false) H1
def tOrV (ta tb : TE) : TE := fun σ H Q => ta σ H fun x H1 => ∃ c, x = .bl c ∧ if c = true then Q (.bl true) H1 else tb σ H1 Q
def tNotV (ta : TE) : TE := fun σ H Q => ta σ H fun x H1 => ∃ c, x = .bl c ∧ Q (.bl (!c)) H1
theorem pe_one {op} {t : TE} (h : PE X a t) : PE X (.BoolOp op [a] pos) t := fun pins s σ H Q I hw => BoolOp_one (h pins s σ H Q I hw)
theorem pe_and (ha : PE X a ta) (hb : PE X (.BoolOp .And (b :: rest) pos) tb) : PE X (.BoolOp .And (a :: b :: rest) pos) (tAndV ta tb) := by
  intro pins s σ H Q I h
  refine BoolOp_and (thn (ha pins s σ H _ I h) fun v s1 ⟨x, H1, I1, r1, q1⟩ => ?_)
  obtain ⟨c, rfl, q1⟩ := q1
  cases r1
  refine wpAny_truthy_bool ?_
  cases c with
  | true => exact hb pins s1 σ H1 Q I1 q1
  | false => exact ⟨.bl false, H1, I1, rfl, q1⟩
/-- a if t else b -/
def tIf (t : TT) (ta tb : TE) : TE := fun σ H Q => t σ H fun c H1 => if c = true then ta σ H1 Q else tb σ H1 Q
theorem pe_ifExp {c : Expr} (hc : PT X c tA) (ha : PE X a ta) (hb : PE X b tb) : PE X (.IfExp c a b pos) (tIf tA ta tb) := by
  intro pins s σ H Q I h
  refine wpAny_IfExp (thn (hc pins s σ H _ I h) fun d s1 ⟨H1, I1, q1⟩ => ?_)
  cases d with
  | true => exact ha pins s1 σ H1 Q I1 q1
  | false => exact hb pins s1 σ H1 Q I1 q1
end
end L2

namespace L2
open PySem PySem.Spec PyProof.Rows

/-! ### a list, a tuple that is read: tracked, frozen, or an object of the module -/
def SqL (K : PySem.W.Frag) (H : Hp) (a : Addr) (xs : List V) : Prop :=
  Rd H a (.lst xs) ∨
    ∃ (o : Obj) (its : Array Value) (n : Nat), K.lookup a = some o ∧ o.cls = .type "list" ∧ o.dict = none ∧ o.data = .seq its n ∧ its.size ≤ sizeLine ∧ Vals xs its.toList
def SqT (K : PySem.W.Frag) (H : Hp) (a : Addr) (xs : List V) : Prop :=
  Rd H a (.tup xs) ∨
    ∃ (o : Obj) (its : Array Value) (n : Nat), K.lookup a = some o ∧ o.cls = .type "tuple" ∧ o.data = .seq its n ∧ its.size ≤ sizeLine ∧ Vals xs its.toList
def absV : Value → Option V
  | .none => some .non
  | .bool b => some (.bl b)
  | .int i _ => some (.int i)
  | .str x _ => some (.str x)
  | .bytes b _ => some (.byt b)
  | .float b _ => some (.flt b)
  | .ref a => some (.ref a)
  | .type n => some (.ty n)
  | _ => none
theorem RelV.abs {x : V} {u : Value} (r : RelV x u) : absV u = some x := by
  cases x with
  | non => cases r; rfl
  | bl _ => cases r; rfl
  | int _ => obtain ⟨t, rfl⟩ := r; rfl
  | str _ => obtain ⟨t, rfl⟩ := r; rfl
  | byt _ => obtain ⟨t, rfl⟩ := r; rfl
  | flt _ => obtain ⟨t, rfl⟩ := r; rfl
  | ref _ => cases r; rfl
  | ty _ => cases r; rfl
theorem RelV.inj {x y : V} {u : Value} (r : RelV x u) (q : RelV y u) : x = y := Option.some.inj (r.abs.symm.trans q.abs)
theorem Vals.inj : ∀ {xs ys : List V} {us : List Value}, Vals xs us → Vals ys us → xs = ys
  | _, _, _, .nil, .nil => rfl
  | _, _, _, .cons r t, .cons r' t' => by rw [r.inj r', Vals.inj t t']
section
variable {X : Cx} {pins : List (Addr × Obj)} {σ : St} {H : Hp} {s : Shared} {a : Addr} {xs ys : List V}
theorem SqL.of {K : PySem.W.Frag} (h : H a = some (.lst xs)) : SqL K H a xs := .inl (.inl h)
theorem Inv.list (I : Inv X pins σ H s) (h : SqL X.K H a xs) : ∃ its : List Value, Vals xs its ∧ PlainL s.heap a its.toArray ∧ xs.length ≤ sizeLine := by
  rcases h with h | ⟨o, its, n, hk, hc, hd, hs, hz, r⟩
  · obtain ⟨z, its, n, r, e⟩ := h.ok I.hok
    exact ⟨its, r, ⟨_, n, e, rfl, rfl, rfl⟩, z⟩
  · refine ⟨its.toList, r, ⟨o, n, I.kIn a o hk, hc, hd, by simpa using hs⟩, ?_⟩
    have e := r.length
    simp only [Array.length_toList] at e
    omega
theorem Inv.tuple (I : Inv X pins σ H s) (h : SqT X.K H a xs) : ∃ its : List Value, Vals xs its ∧ IsTup s.heap a its.toArray ∧ xs.length ≤ sizeLine := by
  rcases h with h | ⟨o, its, n, hk, hc, hs, hz, r⟩
  · obtain ⟨z, its, r, p⟩ := h.ok I.hok
    exact ⟨its, r, p, z⟩
  · refine ⟨its.toList, r, ⟨o, I.kIn a o hk, hc, n, by simpa using hs⟩, ?_⟩
    have e := r.length
    simp only [Array.length_toList] at e
    omega
theorem Inv.list_inj (I : Inv X pins σ H s) (h : SqL X.K H a xs) (h' : SqL X.K H a ys) : xs = ys := by
  obtain ⟨its, r, ⟨o, n, e, _, _, d⟩, _⟩ := I.list h
  obtain ⟨its', r', ⟨o', n', e', _, _, d'⟩, _⟩ := I.list h'
  rw [e] at e'; cases e'
  rw [d] at d'
  injection d' with d1 _
  have : its = its' := by simpa using congrArg Array.toList d1
  subst this
  exact r.inj r'
end

/-! ### another wish about exceptions -/
abbrev Cx.wish (X : Cx) (E : Value → Shared → Prop) : Cx := { X with xe := E }
/-- no exception leaves -/
abbrev Cx.nox (X : Cx) : Cx := X.wish fun _ _ => False
theorem Cx.Ok.wish {X : Cx} (ok : X.Ok) (E : Value → Shared → Prop) : (X.wish E).Ok :=
  ⟨ok.mod, ok.kind, ok.glob, ok.blt, ok.above, ok.inj, ok.has, ok.cab, ok.hd, ok.frames, ok.stk, ok.exf, ok.bs, ok.bsz, ok.noex, ok.exfs, ok.funs, ok.frf⟩
theorem Cx.Ok.unwish {X : Cx} {E : Value → Shared → Prop} (ok : (X.wish E).Ok) : X.Ok :=
  ⟨ok.mod, ok.kind, ok.glob, ok.blt, ok.above, ok.inj, ok.has, ok.cab, ok.hd, ok.frames, ok.stk, ok.exf, ok.bs, ok.bsz, ok.noex, ok.exfs, ok.funs, ok.frf⟩
section
variable {X : Cx} {pins : List (Addr × Obj)} {σ : St} {H : Hp} {s : Shared} {E : Value → Shared → Prop}
theorem Inv.wish (I : Inv X pins σ H s) (E : Value → Shared → Prop) : Inv (X.wish E) pins σ H s := ⟨I.ok.wish E, I.os, I.bare, I.base, I.loc, I.cell, I.free, I.freeC, I.pin, I.hok, I.len⟩
theorem Inv.unwish (I : Inv (X.wish E) pins σ H s) : Inv X pins σ H s := ⟨I.ok.unwish, I.os, I.bare, I.base, I.loc, I.cell, I.free, I.freeC, I.pin, I.hok, I.len⟩
theorem SP.unwish {D : Ends} {f : Flow} {s' : Shared} (h : SP (X.wish E) pins D f s') : SP X pins D f s' := by
  cases f with
  | next => obtain ⟨σ', H', I, q⟩ := h; exact ⟨σ', H', I.unwish, q⟩
  | brk => obtain ⟨σ', H', I, q⟩ := h; exact ⟨σ', H', I.unwish, q⟩
  | cont => obtain ⟨σ', H', I, q⟩ := h; exact ⟨σ', H', I.unwish, q⟩
  | ret u => obtain ⟨v, σ', H', I, r, q⟩ := h; exact ⟨v, σ', H', I.unwish, r, q⟩
theorem PSs.nox {st : List Stmt} {t : TS} (h : PSs X.nox st t) : PSs X st t := fun pins s σ H D I hw =>
  wpAny_mono (h pins s σ H D (I.wish _) hw) (fun _ _ q => q.unwish) fun _ _ z => False.elim z
end

/-! ### blocks and small statements -/
section
variable {X : Cx} {st : Stmt} {rest : List Stmt} {t u : TS} {e : Expr} {te : TE} {pos : Pos}
def tNext : TS := fun D σ H => D.nx σ H
def tSeq (t u : TS) : TS := fun D σ H => t { D with nx := u D } σ H
theorem pss_nil : PSs X [] tNext := fun _ _ σ H _ I h => wpAny_execs_nil ⟨σ, H, I, h⟩
theorem pss_cons (h1 : PS X st t) (h2 : PSs X rest u) : PSs X (st :: rest) (tSeq t u) := by
  intro pins s σ H D I h
  refine wpAny_execs_cons (thn (h1 pins s σ H { D with nx := u D } I h) fun f s1 q => ?_)
  cases f with
  | next =>
    obtain ⟨σ', H', I', q⟩ := q
    exact h2 pins s1 σ' H' D I' q
  | ret v => exact q
  | brk => exact q
  | cont => exact q
theorem pss_one (h1 : PS X st t) : PSs X [st] t := by
  intro pins s σ H D I h
  refine wpAny_execs_cons (thn (h1 pins s σ H D I h) fun f s1 q => ?_)
  cases f with
  | next => exact wpAny_execs_nil q
  | ret v => exact q
  | brk => exact q
  | cont => exact q
def tBreak : TS := fun D σ H => D.bk σ H
def tCont : TS := fun D σ H => D.ct σ H
/-- in a def's body nothing is shown -/
theorem Inv.quiet {pins : List (Addr × Obj)} {σ : St} {H : Hp} {s : Shared} (I : Inv X pins σ H s) : interactive X.env = false := by simp [interactive, I.ok.kind]
/-- an expression whose value is dropped -/
def tDrop (te : TE) : TS := fun D σ H => te σ H fun _ H1 => D.nx σ H1
theorem ps_expr (he : PE X e te) (hs : swapsWith e none pos.line X.env = pure false := by rfl) : PS X (.Expr e pos) (tDrop te) := by
  intro pins s σ H D I h
  exact wpAny_Expr_any (thn (he pins s σ H _ I h) fun v s1 ⟨x, H1, I1, r1, q1⟩ => ⟨σ, H1, I1, q1⟩) I.quiet hs
def tRet (te : TE) : TS := fun D σ H => te σ H D.rt
theorem ps_ret (he : PE X e te) : PS X (.Return (some e) pos) (tRet te) := by
  intro pins s σ H D I h
  exact wpAny_Return_some (thn (he pins s σ H _ I h) fun v s1 ⟨x, H1, I1, r1, q1⟩ => ⟨x, σ, H1, I1, r1, q1⟩)
def tRetN : TS := fun D _ H => D.rt .non H
def tIfS (c : TT) (t u : TS) : TS := fun D σ H => c σ H fun b H1 => if b = true then t D σ H1 else u D σ H1
theorem ps_if {c : Expr} {a b : List Stmt} {tc : TT} (hc : PT X c tc) (ha : PSs X a t) (hb : PSs X b u) : PS X (.If c a b pos) (tIfS tc t u) := by
  intro pins s σ H D I h
  refine wpAny_If (thn (hc pins s σ H _ I h) fun d s1 ⟨H1, I1, q1⟩ => ?_)
  cases d with
  | true => exact ha pins s1 σ H1 D I1 q1
  | false => exact hb pins s1 σ H1 D I1 q1
/-- code that the proof never comes to -/
def tNever : TS := fun _ _ _ => False
theorem ps_never : PS X st tNever := fun _ _ _ _ _ _ h => h.elim
end

/-! ### targets -/
abbrev TG := V → St → Hp → (St → Hp → Prop) → Prop
abbrev TGs := List V → St → Hp → (St → Hp → Prop) → Prop
def PG (X : Cx) (target : Expr) (t : TG) : Prop :=
  ∀ (pins : List (Addr × Obj)) (s : Shared) (σ : St) (H : Hp) (v : V) (u : Value) (Q : St → Hp → Prop), Inv X pins σ H s → RelV v u → t v σ H Q →
    wpAny (model X.prog X.w) X.A (assign target X.env u) (fun _ s' => ∃ σ' H', Inv X pins σ' H' s' ∧ Q σ' H') X.xe s
/-- several targets, one after another -/
def PGs (X : Cx) (ts : List Expr) (t : TGs) : Prop :=
  ∀ (pins : List (Addr × Obj)) (s : Shared) (σ : St) (H : Hp) (vs : List V) (us : List Value) (Q : St → Hp → Prop), Inv X pins σ H s → Vals vs us → t vs σ H Q →
    wpAny (model X.prog X.w) X.A (assignInOrder ((assignEach ts X.env).map (·.2)) us) (fun _ s' => ∃ σ' H', Inv X pins σ' H' s' ∧ Q σ' H') X.xe s
/-- o[i] = v, by values -/
abbrev TSet := V → V → V → Hp → (Hp → Prop) → Prop
def PSet (X : Cx) (t : TSet) : Prop :=
  ∀ (pins : List (Addr × Obj)) (s : Shared) (σ : St) (H : Hp) (o i v : V) (ov iv u : Value) (Q : Hp → Prop), Inv X pins σ H s → RelV o ov → RelV i iv → RelV v u → t o i v H Q →
    wpAny (model X.prog X.w) X.A (setItem ov iv u) (fun _ s' => ∃ H', Inv X pins σ H' s' ∧ Q H') X.xe s
/-- a op= b, by values -/
abbrev TIp := V → V → Hp → VK → Prop
def PIp (X : Cx) (op : Operator) (t : TIp) : Prop :=
  ∀ (pins : List (Addr × Obj)) (s : Shared) (σ : St) (H : Hp) (x y : V) (v u : Value) (Q : VK), Inv X pins σ H s → RelV x v → RelV y u → t x y H Q →
    wpAny (model X.prog X.w) X.A (inplaceOp op v u) (EP X pins σ Q) X.xe s
section
variable {X : Cx} {pos : Pos}
def gName (i : Nat) : TG := fun v σ H Q => Q (σ.set i (some v)) H
theorem pg_name {i : Nat} {x : Str} (hN : X.N.Nodup) (hi : X.N[i]? = some x) (hx : Loc X.env.scope x) (hf : X.fn x = true ∨ X.env.scope.names.lookup x = some .local := by first | exact .inl rfl | exact .inr rfl | assumption) : PG X (.Name x pos) (gName i) := by
  intro pins s σ H v u Q I r h
  exact wpAny_assign_Name (store_ok I hN hi hx r (fun s' I' => ⟨_, H, I', h⟩) hf)
def gNil : TGs := fun vs σ H Q => vs = [] ∧ Q σ H
def gCons (t : TG) (u : TGs) : TGs := fun vs σ H Q => ∃ v r, vs = v :: r ∧ t v σ H fun σ' H' => u r σ' H' Q
/-- (a, b, ..) = a tuple of that length -/
def gTup (K : PySem.W.Frag) (n : Nat) (t : TGs) : TG := fun v σ H Q => ∃ a xs, v = .ref a ∧ SqT K H a xs ∧ xs.length = n ∧ t xs σ H Q
/-- o[i] = .. -/
def gSub (to ti : TE) (t : TSet) : TG := fun v σ H Q => to σ H fun o H1 => ti σ H1 fun i H2 => t o i v H2 fun H3 => Q σ H3
/-- target = value -/
def tAsg (te : TE) (g : TG) : TS := fun D σ H => te σ H fun x H1 => g x σ H1 D.nx
/-- name = value -/
theorem ps_set {i : Nat} {x : Str} {e : Expr} {te : TE} {pos' : Pos} (hN : X.N.Nodup) (hi : X.N[i]? = some x) (hx : Loc X.env.scope x) (he : PE X e te) (hs : swapsWith e (some (.Name x pos')) pos.line X.env = pure false := by rfl) (hf : X.fn x = true ∨ X.env.scope.names.lookup x = some .local := by first | exact .inl rfl | exact .inr rfl | assumption) :
    PS X (.Assign [.Name x pos'] e pos) (tAsg te (gName i)) := by
  intro pins s σ H D I h
  refine wpAny_Assign_Name (thn (he pins s σ H _ I h) fun v s1 ⟨y, H1, I1, r1, q1⟩ => ?_) hs
  exact store_ok I1 hN hi hx r1 (fun s2 I2 => ⟨_, H1, I2, q1⟩) hf
/-- a, b = x, y with plain local names: stored from the right; the pair itself is not tracked (the opening rows as in PyProof/Rows/TupAssign.lean:23) -/
def tPar (i j : Nat) (ta : TA) : TS := fun D σ H => ta σ H fun vs H1 => ∃ v w, vs = [v, w] ∧ D.nx ((σ.set i (some v)).set j (some w)) H1
/-- name op= e -/
def tAug (i : Nat) (te : TE) (ti : TIp) : TS := fun D σ H => ∃ x, σ[i]? = some (some x) ∧ te σ H fun y H1 => ti x y H1 fun z H2 => D.nx (σ.set i (some z)) H2
theorem ps_aug {i : Nat} {x : Str} {e : Expr} {te : TE} {op : Operator} {ti : TIp} {pos' : Pos} (hN : X.N.Nodup) (hi : X.N[i]? = some x) (hx : Loc X.env.scope x) (he : PE X e te) (ho : PIp X op ti) (hf : X.fn x = true ∨ X.env.scope.names.lookup x = some .local := by first | exact .inl rfl | exact .inr rfl | assumption) :
    PS X (.AugAssign (.Name x pos') op e pos) (tAug i te ti) := by
  intro pins s σ H D I h
  obtain ⟨v, e1, h⟩ := h
  obtain ⟨m, hn, hl⟩ := I.loc
  have vis : Vis X.env.scope x := by rcases hx with k | k; exact .inl k; exact .inr (.inl k)
  obtain ⟨u, r, l⟩ := hl i x v hi e1 vis
  refine wpAny_AugAssign_Name ?_
  have go : wpAny (model X.prog X.w) X.A (eval e X.env) (fun w s₂ => wpAny (model X.prog X.w) X.A (inplaceOp op u w) (fun r s₃ => wpAny (model X.prog X.w) X.A (storeName X.env x r) (fun _ => SP X pins D .next) X.xe s₃) X.xe s₂) X.xe s := by
    refine thn (he pins s σ H _ I h) fun w s1 ⟨y, H1, I1, r1, q1⟩ => ?_
    refine thn (ho pins s1 σ H1 v y u w _ I1 r r1 q1) fun z s2 ⟨zv, H2, I2, r2, q2⟩ => ?_
    exact store_ok I2 hN hi hx r2 (fun s3 I3 => ⟨_, H2, I3, q2⟩) hf
  rcases l with ⟨hk, hm⟩ | ⟨hk, c, hc, hcell⟩
  · exact wpAny_loadName_local I.ok.kind hk hn hm go
  · rcases hk with hk | hk
    · exact wpAny_loadName_cell I.ok.kind hk hc hcell go
    · rcases hx with k | k
      · have : X.env.scope.names.lookup x = some .free := hk
        rw [k] at this; cases this
      · have : X.env.scope.names.lookup x = some .free := hk
        rw [k] at this; cases this
/-- o[i] op= e -/
def tAugS (to ti te : TE) (tget : V → V → Hp → VK → Prop) (tip : TIp) (tset : TSet) : TS := fun D σ H => to σ H fun o H1 => ti σ H1 fun i H2 => tget o i H2 fun x H3 => te σ H3 fun y H4 => tip x y H4 fun z H5 => tset o i z H5 fun H6 => D.nx σ H6
/-- o[i], by values -/
def PGet (X : Cx) (t : V → V → Hp → VK → Prop) : Prop :=
  ∀ (pins : List (Addr × Obj)) (s : Shared) (σ : St) (H : Hp) (o i : V) (ov iv : Value) (Q : VK), Inv X pins σ H s → RelV o ov → RelV i iv → t o i H Q →
    wpAny (model X.prog X.w) X.A (getItem ov iv) (EP X pins σ Q) X.xe s
/-- ints -/
def ipI (f : Int → Int → Int) : TIp := fun x y H Q => ∃ i j, x = .int i ∧ y = .int j ∧ Q (.int (f i j)) H
end

/-! ### while -/
section
variable {X : Cx} {pos : Pos}
/-- the invariant W with its measure -/
def tWhile (c : TT) (tb : TS) : TS := fun D σ H => ∃ W : Nat → St → Hp → Prop, (∃ m, W m σ H) ∧ ∀ m σ H, W m σ H →
  c σ H fun b H1 => if b = true then ∃ N : St → Hp → Prop, (∀ σ' H', N σ' H' → ∃ m', m' < m ∧ W m' σ' H') ∧ tb { D with nx := N, ct := N, bk := D.nx } σ H1 else D.nx σ H1
theorem ps_while {c : Expr} {body : List Stmt} {tc : TT} {tb : TS} (hp : PassesOwn (model X.prog X.w) X.A X.env X.xe) (hc : PT X c tc) (hb : PSs X body tb) : PS X (.While c body [] pos) (tWhile tc tb) := by
  intro pins s σ H D I h
  obtain ⟨W, ⟨m0, w0⟩, turn⟩ := h
  refine wpAny_While (codeAny_whileLoop (fun n s' => ∃ σ' H', Inv X pins σ' H' s' ∧ W n σ' H') ?_ m0 ⟨σ, H, I, w0⟩)
  rintro n s1 ⟨σ1, H1, I1, w1⟩
  refine wpAny_passesOwn hp (thn (hc pins s1 σ1 H1 _ I1 (turn n σ1 H1 w1)) fun b s2 ⟨H2, I2, q2⟩ => ?_)
  cases b with
  | true =>
    obtain ⟨N, hN, q2⟩ := q2
    rw [if_pos rfl]
    refine wpAny_passesOwn hp (thn (hb pins s2 σ1 H2 _ I2 q2) fun f s3 q3 => ?_)
    cases f with
    | next =>
      obtain ⟨σ3, H3, I3, n3⟩ := q3
      obtain ⟨m', hm, w3⟩ := hN σ3 H3 n3
      exact ⟨m', hm, σ3, H3, I3, w3⟩
    | cont =>
      obtain ⟨σ3, H3, I3, n3⟩ := q3
      obtain ⟨m', hm, w3⟩ := hN σ3 H3 n3
      exact ⟨m', hm, σ3, H3, I3, w3⟩
    | brk => exact q3
    | ret v => exact q3
  | false =>
    rw [if_neg Bool.false_ne_true]
    exact wpAny_execs_nil ⟨σ1, H2, I2, q2⟩
end

/-! ### what a loop or a comprehension walks -/
/-- at turn i: it yields x (the heap may grow), or it stops -/
structure It where
  go : Nat → Hp → Prop
  yld : Nat → Hp → V → Hp → Prop
  stop : Nat → Hp → Prop
/-- the iterator's own objects may turn: they are not the frame's, not pinned, younger than the entry (or a comprehension's own) -/
def FpOk (X : Cx) (pins : List (Addr × Obj)) (H : Hp) (b : Addr) : Prop :=
  H b = none ∧ b ≠ X.env.locals ∧ b ∉ X.fs ∧ (b ∈ X.ex ∨ X.s_0.heap.objs.size ≤ b) ∧ (∀ x c, X.env.cells.lookup x = some c → c ≠ b) ∧ ∀ p ∈ X.pn ++ pins, p.1 ≠ b
theorem Inv.fpOk {X : Cx} {pins : List (Addr × Obj)} {σ : St} {H H' : Hp} {s : Shared} {b : Addr} (I : Inv X pins σ H s) (hb : s.heap.objs.size ≤ b) (hn : H' b = none) : FpOk X pins H' b := by
  refine ⟨hn, Nat.ne_of_gt (Nat.lt_of_lt_of_le I.lt hb), I.nofs hb, .inr (Nat.le_trans I.sz hb), fun x c e z => ?_, fun p hp z => ?_⟩
  · obtain ⟨v, q⟩ := I.cell x c e
    exact absurd (Nat.lt_of_lt_of_le q.lt (by rw [z]; exact hb)) (Nat.lt_irrefl _)
  · exact absurd (Nat.lt_of_lt_of_le (Heap.lt_size (I.pin p hp).1) (by rw [z]; exact hb)) (Nat.lt_irrefl _)
structure Turn (P : Program) (w : World) (K : PySem.W.Frag) (tg : Expr) (J : It) (fp : List Addr) (it : Addr) (tn : Nat → Heap → Prop) : Prop where
  mem : it ∈ fp
  obj : ∀ i h, tn i h → ∀ b ∈ fp, ∃ o, h.get? b = some o ∧ ∀ v, o.data ≠ .cell v
  keep : ∀ i h h', tn i h → (∀ b ∈ fp, ∀ o, h.get? b = some o → h'.get? b = some o) → tn i h'
  item : ∀ (X : Cx), X.prog = P → X.w = w → X.K = K → X.calm = true → ∀ (i : Nat) (pins : List (Addr × Obj)) (s : Shared) (σ : St) (H : Hp) (E : Value → Shared → Prop), Inv X pins σ H s → (∀ b ∈ fp, FpOk X pins H b) → tn i s.heap → J.go i H →
    wpAny (model P w) X.A (pyNext (.ref it)) (fun r s1 => ∃ u, r = some u ∧
      wpAny (model P w) X.A (letOwnedTupleGo tg (.ref it) u) (fun _ s2 => ∃ x H', Inv X pins σ H' s2 ∧ RelV x u ∧ J.yld i H x H' ∧ tn (i + 1) s2.heap ∧ ∀ b ∈ fp, H' b = none) E s1) E s
  done : ∀ (X : Cx), X.prog = P → X.w = w → X.K = K → X.calm = true → ∀ (i : Nat) (pins : List (Addr × Obj)) (s : Shared) (σ : St) (H : Hp) (E : Value → Shared → Prop), Inv X pins σ H s → (∀ b ∈ fp, FpOk X pins H b) → tn i s.heap → J.stop i H →
    wpAny (model P w) X.A (pyNext (.ref it)) (fun r s1 => r = none ∧ Inv X pins σ H s1) E s
  self : ∀ (A : Around) (i : Nat) (s : Shared) (Q : Value → Shared → Prop) (E : Value → Shared → Prop), tn i s.heap → Q (.ref it) s → wpAny (model P w) A (pyIter (.ref it)) Q E s
abbrev TI := St → Hp → (It → Hp → Prop) → Prop
/-- an iterator has come -/
def PIE (X : Cx) (pins : List (Addr × Obj)) (σ : St) (tg : Expr) (R : It → Hp → Prop) (itv : Value) (s2 : Shared) : Prop :=
  ∃ (it : Addr) (fp : List Addr) (tn : Nat → Heap → Prop) (J : It) (H' : Hp), itv = .ref it ∧ Inv X pins σ H' s2 ∧ Turn X.prog X.w X.K tg J fp it tn ∧ tn 0 s2.heap ∧ (∀ b ∈ fp, FpOk X pins H' b) ∧ R J H'
def PI (X : Cx) (tg iter : Expr) (wi : TI) : Prop :=
  ∀ (pins : List (Addr × Obj)) (s : Shared) (σ : St) (H : Hp) (R : It → Hp → Prop), Inv X pins σ H s → wi σ H R →
    wpAny (model X.prog X.w) X.A (eval iter X.env) (fun v s1 => wpAny (model X.prog X.w) X.A (pyIter v) (PIE X pins σ tg R) X.xe s1) X.xe s

/-- the step ahead of the store is nothing for an iterator that keeps no tuple -/
theorem go_of {M : Model} {A : Around} {E : Value → Shared → Prop} {s : Shared} {tg : Expr} {it : Addr} {u : Value} {o : Obj} {n : String} {vs : Array Value} {Q : Unit → Shared → Prop} (ho : s.heap.get? it = some o) (hc : o.cls = .type n) (hd : o.data = .fields vs)
    (hn : ["enumerate", "zip", "dict_itemiterator", "dict_reverseitemiterator", "odict_iterator", "itertools.zip_longest", "itertools.pairwise"].contains n = false) (hQ : Q () s) : wpAny M A (letOwnedTupleGo tg (.ref it) u) Q E s := by
  unfold letOwnedTupleGo
  cases tg <;> first
    | exact wpAny_pure hQ
    | (cases u <;> first
        | exact wpAny_pure hQ
        | (refine wpAny_bind (wpAny_load ho ?_)
           rw [hc, hd]
           show wpAny M A (if (["enumerate", "zip", "dict_itemiterator", "dict_reverseitemiterator", "odict_iterator", "itertools.zip_longest", "itertools.pairwise"].contains n && vs[0]? == some (rawInt _)) = true then _ else _) Q E s
           rw [if_neg (by intro h; rw [hn, Bool.false_and] at h; cases h)]
           exact wpAny_pure hQ))

/-- the list at a, as it stands at each turn (a loop may append to it) -/
def Itl (K : PySem.W.Frag) (a : Addr) : It :=
  ⟨fun i H => ∃ xs x, SqL K H a xs ∧ xs[i]? = some x, fun i H x H' => H' = H ∧ ∀ xs, SqL K H a xs → xs[i]? = some x, fun i H => ∃ xs, SqL K H a xs ∧ xs.length ≤ i⟩
def Itt (K : PySem.W.Frag) (a : Addr) : It :=
  ⟨fun i H => ∃ xs x, SqT K H a xs ∧ xs[i]? = some x, fun i H x H' => H' = H ∧ ∀ xs, SqT K H a xs → xs[i]? = some x, fun i H => ∃ xs, SqT K H a xs ∧ xs.length ≤ i⟩
/-- lo, lo + 1, .. (n of them) -/
def Itr (lo : Int) (n : Nat) : It := ⟨fun i _ => i < n, fun i H x H' => H' = H ∧ x = .int (lo + i), fun i _ => n ≤ i⟩
theorem turn_list {P : Program} {w : World} {K : PySem.W.Frag} {tg : Expr} (a it : Addr) : Turn P w K tg (Itl K a) [it] it (fun i h => h.IsListIter it a i) where
  mem := by simp
  obj := fun i h st b hb => by
    have e : b = it := by simpa using hb
    subst e
    obtain ⟨o, e, c, d⟩ := st
    exact ⟨o, e, fun v z => by rw [d] at z; cases z⟩
  keep := fun i h h' st k => st.at fun o e => k it (by simp) o e
  item := by
    intro X hP hw hK hc i pins s σ H E I hf st hg
    subst hP hw hK
    obtain ⟨xs, x, hq, hx⟩ := hg
    obtain ⟨its, rv, p, hz⟩ := I.list hq
    obtain ⟨u, hu, ru⟩ := rv.get hx
    obtain ⟨f0, f1, f2, f3, f4, f5⟩ := hf it (by simp)
    refine wpAny_pyNext_list_item st p.isList (x := u) (by simpa using hu) fun h' st' sb => ?_
    have I1 : Inv X pins σ H { s with heap := h' } := I.turned (t' := s.toks) (fun b o hb e => (sb.2 b hb).trans e) f0 f1 f3 f4 f5
    obtain ⟨o, e, c, d⟩ := id st'
    exact ⟨u, rfl, go_of (s := { s with heap := h' }) e c d (by decide) ⟨x, H, I1, ru, ⟨rfl, fun ys hy => by rw [I.list_inj hy hq]; exact hx⟩, st', fun b hb => (hf b hb).1⟩⟩
  done := by
    intro X hP hw hK hc i pins s σ H E I hf st hg
    subst hP hw hK
    obtain ⟨xs, hq, hx⟩ := hg
    obtain ⟨its, rv, p, hz⟩ := I.list hq
    obtain ⟨f0, f1, f2, f3, f4, f5⟩ := hf it (by simp)
    have hl := rv.length
    exact wpAny_pyNext_list_end (I.ok.hd hc) st p.isList (by simp; omega) fun h' eb => ⟨rfl, I.turned (t' := s.toks) (fun b o hb e => eb b o hb e) f0 f1 f3 f4 f5⟩
  self := fun _ _ _ _ _ st h => wpAny_pyIter_listiter st h
theorem turn_range {P : Program} {w : World} {K : PySem.W.Frag} {tg : Expr} (it : Addr) (lo : Int) (n : Nat) : Turn P w K tg (Itr lo n) [it] it (fun i h => IsRangeIter h it (lo + (i : Nat) * 1) ((n : Int) - (i : Nat)) 1) where
  mem := by simp
  obj := fun i h st b hb => by
    have e : b = it := by simpa using hb
    subst e
    exact ⟨_, st, fun v z => by
      have z' : Data.fields _ = Data.cell v := z
      cases z'⟩
  keep := fun i h h' st k => k it (by simp) _ st
  item := by
    intro X hP hw hK hc i pins s σ H E I hf st hg
    subst hP hw hK
    obtain ⟨f0, f1, f2, f3, f4, f5⟩ := hf it (by simp)
    have W := Walks.range (prog := X.prog) (w := X.w) (I.ok.hd hc) it lo 1 n
    refine W.item i s _ _ hg st fun v h' tk hv st' kk => ?_
    obtain ⟨t, rfl⟩ := hv
    have I1 : Inv X pins σ H { s with heap := h', toks := tk } := I.turned (fun b o hb e => kk b o (by simpa using hb) e) f0 f1 f3 f4 f5
    refine ⟨_, rfl, go_of (s := { s with heap := h', toks := tk }) (n := "range_iterator") st' rfl rfl (by decide) ⟨.int (lo + i), H, I1, ⟨t, ?_⟩, ⟨rfl, rfl⟩, st', fun b hb => (hf b hb).1⟩⟩
    rw [Int.mul_one]
  done := by
    intro X hP hw hK hc i pins s σ H E I hf st hg
    subst hP hw hK
    obtain ⟨f0, f1, f2, f3, f4, f5⟩ := hf it (by simp)
    exact wpAny_pyNext_range_end (I.ok.hd hc) st (by have : n ≤ i := hg; omega) fun h' eb => ⟨rfl, I.turned (t' := s.toks) (fun b o hb e => eb b o hb e) f0 f1 f3 f4 f5⟩
  self := fun _ _ _ _ _ st h => wpAny_pyIter_rangeiter st h
end L2

namespace L2
open PySem PySem.Spec PyProof.Rows
section
variable {X : Cx} {tg : Expr}
def iList (K : PySem.W.Frag) (tl : TE) : TI := fun σ H R => tl σ H fun x H1 => ∃ a, x = .ref a ∧ (∃ xs, SqL K H1 a xs) ∧ R (Itl K a) H1
def iTup (K : PySem.W.Frag) (tl : TE) : TI := fun σ H R => tl σ H fun x H1 => ∃ a, x = .ref a ∧ (∃ xs, SqT K H1 a xs) ∧ R (Itt K a) H1
theorem pi_list {l : Expr} {tl : TE} (hl : PE X l tl) : PI X tg l (iList X.K tl) := by
  intro pins s σ H R I h
  refine thn (hl pins s σ H _ I h) fun v s1 ⟨x, H1, I1, r1, q1⟩ => ?_
  obtain ⟨a, e, ⟨xs, hq⟩, q⟩ := q1
  subst e
  cases r1
  obtain ⟨its, rv, p, hz⟩ := I1.list hq
  refine wpAny_pyIter_list p.isList ?_
  refine ⟨s1.heap.objs.size, [s1.heap.objs.size], _, _, H1, rfl, I1.kept (t' := s1.toks) fun b o e => Heap.get?_push_of_some _ e, turn_list a _, ⟨_, Heap.get?_push_size _ rfl, rfl, rfl⟩, fun b hb => ?_, q⟩
  have e : b = s1.heap.objs.size := by simpa using hb
  subst e
  exact I1.fpOk (Nat.le_refl _) (I1.hok.fresh (Nat.le_refl _))
/-- a range object just made, walked -/
theorem range_it {pins : List (Addr × Obj)} {σ : St} {H : Hp} {s : Shared} {R : It → Hp → Prop} {E : Value → Shared → Prop} {lo hi : Int} {t u v : Tok} {tk : Nat} (I : Inv X pins σ H s) (h1 : -(2 ^ 62) ≤ lo) (h2 : lo < 2 ^ 62) (h3 : -(2 ^ 62) ≤ hi) (h4 : hi < 2 ^ 62)
    (q : R (Itr lo (hi - lo).toNat) H) : wpAny (model X.prog X.w) X.A (pyIter (.ref s.heap.objs.size)) (PIE X pins σ tg R) E { s with heap := s.heap.push { cls := .type "range", data := .fields #[.int lo t, .int hi u, .int 1 v] }, toks := tk } := by
  refine wpAny_pyIter_range (IsRange.new ..) (small_one h1 h2 h3 h4) ?_
  have I1 : Inv X pins σ H { s with heap := s.heap.push { cls := .type "range", data := .fields #[.int lo t, .int hi u, .int 1 v] }, toks := tk } := I.kept fun b o e => Heap.get?_push_of_some _ e
  refine ⟨(s.heap.push { cls := .type "range", data := .fields #[.int lo t, .int hi u, .int 1 v] }).objs.size, [(s.heap.push { cls := .type "range", data := .fields #[.int lo t, .int hi u, .int 1 v] }).objs.size], _, _, H, rfl,
    I1.kept (t' := tk) fun b o e => Heap.get?_push_of_some _ e, turn_range _ lo (hi - lo).toNat, ?_, fun b hb => ?_, q⟩
  · have e1 : lo + ((0 : Nat) : Int) * 1 = lo := by simp
    have e2 : (((hi - lo).toNat : Nat) : Int) - ((0 : Nat) : Int) = Builtin.Range.rangeSize lo hi 1 := by rw [rangeSize_one]; split <;> omega
    show IsRangeIter _ _ (lo + ((0 : Nat) : Int) * 1) ((((hi - lo).toNat : Nat) : Int) - ((0 : Nat) : Int)) 1
    rw [e1, e2]
    exact Heap.get?_push_size _ rfl
  · have e : b = (s.heap.push { cls := .type "range", data := .fields #[.int lo t, .int hi u, .int 1 v] }).objs.size := by simpa using hb
    subst e
    exact I1.fpOk (Nat.le_refl _) (I1.hok.fresh (Nat.le_refl _))
def iRng1 (ta : TA) : TI := fun σ H R => ta σ H fun vs H1 => ∃ j : Int, vs = [.int j] ∧ -(2 ^ 62) ≤ j ∧ j < 2 ^ 62 ∧ R (Itr 0 j.toNat) H1
def iRng2 (ta : TA) : TI := fun σ H R => ta σ H fun vs H1 => ∃ i j : Int, vs = [.int i, .int j] ∧ (-(2 ^ 62) ≤ i ∧ i < 2 ^ 62 ∧ -(2 ^ 62) ≤ j ∧ j < 2 ^ 62) ∧ R (Itr i (j - i).toNat) H1
theorem pi_range1 {a : Expr} {ta : TA} {p pos : Pos} (hg : Gl X "range") (hm : X.mg "range" = none) (ha : PA X [a] ta) (hs : starEach [a] X.env = [(false, eval a X.env)] := by rfl) : PI X tg (.Call (.Name "range" p) [a] [] pos) (iRng1 ta) := by
  intro pins s σ H R I h
  refine Call_ (ld_blt I hg hm boot_range (PyProof.Rows.callWith_type1 (thn (ha pos pins s σ H _ I h) fun us s1 ⟨vs, H1, I1, r1, q1⟩ => ?_) hs rfl))
  obtain ⟨j, e, q1, q2, q⟩ := q1
  subst e
  cases r1 with
  | cons r rr =>
    cases rr
    obtain ⟨t, rfl⟩ := r
    exact call_range_1 (range_it I1 (by omega) (by omega) q1 q2 (by simpa using q))

/-! ### for -/
/-- W: the invariant by the turn and a measure; N: what the body is to reach -/
def tFor (wi : TI) (g : TG) (tb : TS) : TS := fun D σ H => wi σ H fun J H1 => ∃ W : Nat → Nat → St → Hp → Prop, (∃ m, W 0 m σ H1) ∧ ∀ i m σ H, W i m σ H →
  (J.stop i H ∧ D.nx σ H) ∨ (J.go i H ∧ ∃ N : St → Hp → Prop, (∀ σ' H', N σ' H' → ∃ m', m' < m ∧ W (i + 1) m' σ' H') ∧ ∀ x H', J.yld i H x H' → g x σ H' fun σ2 H2 => tb { D with nx := N, ct := N, bk := D.nx } σ2 H2)
/-- the records at fp as they stand -/
def pinsAt (fp : List Addr) (h : Heap) : List (Addr × Obj) := fp.filterMap fun b => (h.get? b).map fun o => (b, o)
theorem mem_pinsAt {fp : List Addr} {h : Heap} {b : Addr} {o : Obj} (hb : b ∈ fp) (e : h.get? b = some o) : (b, o) ∈ pinsAt fp h := List.mem_filterMap.mpr ⟨b, hb, by rw [e]; rfl⟩
theorem of_pinsAt {fp : List Addr} {h : Heap} {p : Addr × Obj} (hp : p ∈ pinsAt fp h) : p.1 ∈ fp ∧ h.get? p.1 = some p.2 := by
  obtain ⟨b, hb, e⟩ := List.mem_filterMap.mp hp
  cases q : h.get? b with
  | none => rw [q] at e; cases e
  | some o =>
    rw [q] at e
    have e' : (b, o) = p := Option.some.inj e
    subst e'
    exact ⟨hb, q⟩
theorem Inv.pinned {pins : List (Addr × Obj)} {σ : St} {H : Hp} {s : Shared} {fp : List Addr} (I : Inv X pins σ H s) (hf : ∀ b ∈ fp, FpOk X pins H b) (ho : ∀ b ∈ fp, ∃ o, s.heap.get? b = some o ∧ ∀ v, o.data ≠ .cell v) : Inv X (pins ++ pinsAt fp s.heap) σ H s :=
  I.pins_of fun p hp => (List.mem_append.mp hp).elim (fun z => I.pin p (List.mem_append_right _ z)) fun z => by
    obtain ⟨hb, e⟩ := of_pinsAt z
    obtain ⟨f0, f1, f2, _⟩ := hf p.1 hb
    obtain ⟨o, e', d⟩ := ho p.1 hb
    rw [e] at e'; cases e'
    exact ⟨e, f0, f1, f2, d⟩
theorem Inv.unpinned {pins pl : List (Addr × Obj)} {σ : St} {H : Hp} {s : Shared} (I : Inv X (pins ++ pl) σ H s) : Inv X pins σ H s := I.pins_of fun p hp => I.pin p (List.mem_append_right _ (List.mem_append_left _ hp))
theorem ps_for {iter : Expr} {body : List Stmt} {wi : TI} {g : TG} {tb : TS} {pos : Pos} (hp : PassesOwn (model X.prog X.w) X.A X.env X.xe) (hc : X.calm = true) (hi : PI X tg iter wi) (hg : PG X tg g) (hb : PSs X body tb)
    (hs : ∀ x, foldedSetIterable iter X.env x = pure x := by intro _; rfl) : PS X (.For tg iter body [] pos) (tFor wi g tb) := by
  intro pins s σ H D I h
  refine wpAny_For (thn (hi pins s σ H _ I h) fun v s1 h1 => thn h1 fun itv s2 h2 => ?_) hs
  obtain ⟨it, fp, tn, J, H2, e, I2, T, st2, f2, W, ⟨m0, w0⟩, turn⟩ := h2
  subst e
  -- what stays true of the iterator's objects through the loop
  have stat : ∀ {H' : Hp}, (∀ b ∈ fp, H' b = none) → ∀ b ∈ fp, FpOk X pins H' b := fun hn b hb => ⟨hn b hb, (f2 b hb).2⟩
  refine codeAny_forLoop_any (fun n s' => ∃ i σ' H', Inv X pins σ' H' s' ∧ tn i s'.heap ∧ (∀ b ∈ fp, H' b = none) ∧ W i n σ' H') ?_ m0 ⟨0, σ, H2, I2, st2, fun b hb => (f2 b hb).1, w0⟩
  rintro n s3 ⟨i, σ3, H3, I3, st3, fr3, w3⟩
  rcases turn i n σ3 H3 w3 with ⟨stop, qn⟩ | ⟨go, N, hN, step⟩
  · refine wpAny_passesOwn hp (thn (T.done X rfl rfl rfl hc i pins s3 σ3 H3 X.xe I3 (stat fr3) st3 stop) fun r s4 ⟨hr, I4⟩ => ?_)
    subst hr
    exact wpAny_execs_nil ⟨σ3, H3, I4, qn⟩
  · refine wpAny_passesOwn hp (thn (T.item X rfl rfl rfl hc i pins s3 σ3 H3 X.xe I3 (stat fr3) st3 go) fun r s4 ⟨u, hr, h4⟩ => ?_)
    subst hr
    refine wpAny_passesOwn hp (thn h4 fun _ s5 ⟨x, H5, I5, r5, y5, st5, fr5⟩ => ?_)
    have I5' := I5.pinned (stat fr5) (T.obj _ _ st5)
    refine wpAny_passesOwn hp (thn (hg _ s5 σ3 H5 x u _ I5' r5 (step x H5 y5)) fun _ s6 ⟨σ6, H6, I6, q6⟩ => ?_)
    refine wpAny_passesOwn hp (thn (hb _ s6 σ6 H6 _ I6 q6) fun f s7 q7 => ?_)
    have again : ∀ {σ7 : St} {H7 : Hp}, Inv X (pins ++ pinsAt fp s5.heap) σ7 H7 s7 → N σ7 H7 → ∃ m, m < n ∧ ∃ i σ' H', Inv X pins σ' H' s7 ∧ tn i s7.heap ∧ (∀ b ∈ fp, H' b = none) ∧ W i m σ' H' := fun {σ7 H7} I7 n7 => by
      obtain ⟨m', hm, w7⟩ := hN σ7 H7 n7
      refine ⟨m', hm, i + 1, σ7, H7, I7.unpinned, T.keep _ _ _ st5 fun b hb o e => (I7.pin (b, o) (List.mem_append_right _ (List.mem_append_right _ (mem_pinsAt hb e)))).1, fun b hb => ?_, w7⟩
      obtain ⟨o, e, d⟩ := T.obj _ _ st5 b hb
      exact (I7.pin (b, o) (List.mem_append_right _ (List.mem_append_right _ (mem_pinsAt hb e)))).2.1
    cases f with
    | next => obtain ⟨σ7, H7, I7, n7⟩ := q7; exact again I7 n7
    | cont => obtain ⟨σ7, H7, I7, n7⟩ := q7; exact again I7 n7
    | brk => obtain ⟨σ7, H7, I7, q7⟩ := q7; exact ⟨σ7, H7, I7.unpinned, q7⟩
    | ret v => obtain ⟨x7, σ7, H7, I7, r7, q7⟩ := q7; exact ⟨x7, σ7, H7, I7.unpinned, r7, q7⟩
end

/-! ### the forms one uses -/
/-- over a list that the body leaves as it is -/
theorem for_list {K : PySem.W.Frag} {a : Addr} {xs : List V} {g : TG} {tb : TS} {D : Ends} {σ : St} {H : Hp} (Pv : Nat → St → Hp → Prop) (h0 : Pv 0 σ H) (hl : ∀ i σ H, i ≤ xs.length → Pv i σ H → SqL K H a xs)
    (hs : ∀ i x σ H, xs[i]? = some x → Pv i σ H → g x σ H fun σ2 H2 => tb { D with nx := Pv (i + 1), ct := Pv (i + 1), bk := D.nx } σ2 H2) (hd : ∀ σ H, Pv xs.length σ H → D.nx σ H) :
    ∃ W : Nat → Nat → St → Hp → Prop, (∃ m, W 0 m σ H) ∧ ∀ i m σ H, W i m σ H →
      ((Itl K a).stop i H ∧ D.nx σ H) ∨ ((Itl K a).go i H ∧ ∃ N : St → Hp → Prop, (∀ σ' H', N σ' H' → ∃ m', m' < m ∧ W (i + 1) m' σ' H') ∧ ∀ x H', (Itl K a).yld i H x H' → g x σ H' fun σ2 H2 => tb { D with nx := N, ct := N, bk := D.nx } σ2 H2) := by
  refine ⟨fun i m σ H => m = xs.length - i ∧ i ≤ xs.length ∧ Pv i σ H, ⟨xs.length, by simp, Nat.zero_le _, h0⟩, ?_⟩
  rintro i m σ H ⟨rfl, hi, p⟩
  have q := hl i σ H hi p
  by_cases hlt : i < xs.length
  · refine .inr ⟨⟨xs, xs[i], q, by simp [hlt]⟩, Pv (i + 1), fun σ' H' p' => ⟨xs.length - (i + 1), by omega, rfl, hlt, p'⟩, fun x H' y => ?_⟩
    obtain ⟨e, y⟩ := y
    subst e
    exact hs i x σ _ (y xs q) p
  · have e : i = xs.length := by omega
    subst e
    exact .inl ⟨⟨xs, q, Nat.le_refl _⟩, hd σ H p⟩
theorem for_range {lo : Int} {n : Nat} {g : TG} {tb : TS} {D : Ends} {σ : St} {H : Hp} (Pv : Nat → St → Hp → Prop) (h0 : Pv 0 σ H)
    (hs : ∀ i σ H, i < n → Pv i σ H → g (.int (lo + i)) σ H fun σ2 H2 => tb { D with nx := Pv (i + 1), ct := Pv (i + 1), bk := D.nx } σ2 H2) (hd : ∀ σ H, Pv n σ H → D.nx σ H) :
    ∃ W : Nat → Nat → St → Hp → Prop, (∃ m, W 0 m σ H) ∧ ∀ i m σ H, W i m σ H →
      ((Itr lo n).stop i H ∧ D.nx σ H) ∨ ((Itr lo n).go i H ∧ ∃ N : St → Hp → Prop, (∀ σ' H', N σ' H' → ∃ m', m' < m ∧ W (i + 1) m' σ' H') ∧ ∀ x H', (Itr lo n).yld i H x H' → g x σ H' fun σ2 H2 => tb { D with nx := N, ct := N, bk := D.nx } σ2 H2) := by
  refine ⟨fun i m σ H => m = n - i ∧ i ≤ n ∧ Pv i σ H, ⟨n, by simp, Nat.zero_le _, h0⟩, ?_⟩
  rintro i m σ H ⟨rfl, hi, p⟩
  by_cases hlt : i < n
  · refine .inr ⟨hlt, Pv (i + 1), fun σ' H' p' => ⟨n - (i + 1), by omega, rfl, hlt, p'⟩, fun x H' y => ?_⟩
    obtain ⟨e, y⟩ := y
    subst e y
    exact hs i σ _ hlt p
  · have e : i = n := by omega
    subst e
    exact .inl ⟨Nat.le_refl _, hd σ H p⟩
/-- while, by a word and a measure of the state -/
theorem while_by {c : TT} {tb : TS} {D : Ends} {σ : St} {H : Hp} (Pv : St → Hp → Prop) (μ : St → Hp → Nat) (h0 : Pv σ H)
    (hs : ∀ σ H, Pv σ H → c σ H fun b H1 => if b = true then tb { D with nx := fun σ' H' => Pv σ' H' ∧ μ σ' H' < μ σ H, ct := fun σ' H' => Pv σ' H' ∧ μ σ' H' < μ σ H, bk := D.nx } σ H1 else D.nx σ H1)
    (mono : ∀ σ H Q Q', (∀ b H1, Q b H1 → Q' b H1) → c σ H Q → c σ H Q') : tWhile c tb D σ H := by
  refine ⟨fun m σ H => m = μ σ H ∧ Pv σ H, ⟨_, rfl, h0⟩, ?_⟩
  rintro m σ H ⟨rfl, p⟩
  refine mono σ H _ _ (fun b H1 q => ?_) (hs σ H p)
  cases b with
  | true => exact ⟨_, fun σ' H' ⟨p', l⟩ => ⟨_, l, rfl, p'⟩, q⟩
  | false => exact q
end L2

namespace L2
open PySem PySem.Spec PyProof.Rows

abbrev R2 := V → V → Hp → VK → Prop
/-- a two-place operation on values: f is binaryOp op, inplaceOp op or compareOp op -/
def OpR (X : Cx) (f : Value → Value → Sem Value) (r : R2) : Prop :=
  ∀ (pins : List (Addr × Obj)) (s : Shared) (σ : St) (H : Hp) (x y : V) (v u : Value) (Q : VK), Inv X pins σ H s → RelV x v → RelV y u → r x y H Q →
    wpAny (model X.prog X.w) X.A (f v u) (EP X pins σ Q) X.xe s
/-- a one-place operation -/
def UnR (X : Cx) (f : Value → Sem Value) (r : V → Hp → VK → Prop) : Prop :=
  ∀ (pins : List (Addr × Obj)) (s : Shared) (σ : St) (H : Hp) (x : V) (v : Value) (Q : VK), Inv X pins σ H s → RelV x v → r x H Q →
    wpAny (model X.prog X.w) X.A (f v) (EP X pins σ Q) X.xe s
/-- a call of a value that is known (a builtin, a type) with values -/
def CallR (X : Cx) (f : Value) (r : List V → Hp → VK → Prop) : Prop :=
  ∀ (pins : List (Addr × Obj)) (s : Shared) (σ : St) (H : Hp) (xs : List V) (us : List Value) (Q : VK), Inv X pins σ H s → Vals xs us → r xs H Q →
    wpAny (model X.prog X.w) X.A (call f us) (EP X pins σ Q) X.xe s
/-- a value's truth -/
def TruR (X : Cx) (r : V → Hp → (Bool → Hp → Prop) → Prop) : Prop :=
  ∀ (pins : List (Addr × Obj)) (s : Shared) (σ : St) (H : Hp) (x : V) (v : Value) (Q : Bool → Hp → Prop), Inv X pins σ H s → RelV x v → r x H Q →
    wpAny (model X.prog X.w) X.A (truthy v) (TP X pins σ Q) X.xe s

def tOp (r : R2) (ta tb : TE) : TE := fun σ H Q => ta σ H fun x H1 => tb σ H1 fun y H2 => r x y H2 Q
def tUn (r : V → Hp → VK → Prop) (ta : TE) : TE := fun σ H Q => ta σ H fun x H1 => r x H1 Q
/-- ints in, under C, and a value out -/
def rI (C : Int → Int → Prop) (g : Int → Int → V) : R2 := fun x y H Q => ∃ i j, x = .int i ∧ y = .int j ∧ C i j ∧ Q (g i j) H
def rI0 (g : Int → Int → V) : R2 := fun x y H Q => ∃ i j, x = .int i ∧ y = .int j ∧ Q (g i j) H
def rU (g : Int → V) : V → Hp → VK → Prop := fun x H Q => ∃ i, x = .int i ∧ Q (g i) H

section
variable {X : Cx} {a b c : Expr} {ta tb tc : TE} {pos : Pos}

theorem binT (ha : PE X a ta) (hb : PE X b tb) {pins : List (Addr × Obj)} {s : Shared} {σ : St} {H : Hp} {R : V → V → Hp → Prop} (I : Inv X pins σ H s)
    (h : ta σ H fun x H1 => tb σ H1 fun y H2 => R x y H2) {Q : Value → Shared → Prop} {f : Value → Value → Sem Value}
    (hf : ∀ v u s2 x y H2, Inv X pins σ H2 s2 → RelV x v → RelV y u → R x y H2 → wpAny (model X.prog X.w) X.A (f v u) Q X.xe s2) :
    wpAny (model X.prog X.w) X.A (eval a X.env) (fun v s₁ => wpAny (model X.prog X.w) X.A (eval b X.env) (fun u s₂ => wpAny (model X.prog X.w) X.A (f v u) Q X.xe s₂) X.xe s₁) X.xe s := by
  refine thn (ha pins s σ H _ I h) fun v s1 ⟨x, H1, I1, r1, q1⟩ => ?_
  refine thn (hb pins s1 σ H1 _ I1 q1) fun u s2 ⟨y, H2, I2, r2, q2⟩ => ?_
  exact hf v u s2 x y H2 I2 r1 r2 q2

theorem pe_op {op : Operator} {r : R2} (ho : OpR X (binaryOp op) r) (ha : PE X a ta) (hb : PE X b tb) : PE X (.BinOp a op b pos) (tOp r ta tb) := by
  intro pins s σ H Q I h
  exact wpAny_BinOp (binT ha hb I h fun v u s2 x y H2 I2 rx ry q => ho pins s2 σ H2 x y v u Q I2 rx ry q)
theorem pe_un {op : UnaryOp} {r : V → Hp → VK → Prop} (ho : UnR X (unaryOp op) r) (ha : PE X a ta) : PE X (.UnaryOp op a pos) (tUn r ta) := by
  intro pins s σ H Q I h
  exact UnaryOp_ (thn (ha pins s σ H _ I h) fun v s1 ⟨x, H1, I1, r1, q1⟩ => ho pins s1 σ H1 x v Q I1 r1 q1)

/-! ### ints -/
theorem opI {f : Value → Value → Sem Value} {C : Int → Int → Prop} {g : Int → Int → Int}
    (rule : ∀ (i j : Int) (t u : Tok) (s : Shared) (Q : Value → Shared → Prop) (E : Value → Shared → Prop), C i j → Q (.int (g i j) s.toks) { s with toks := s.toks + 1 } → wpAny (model X.prog X.w) X.A (f (.int i t) (.int j u)) Q E s) :
    OpR X f (rI C fun i j => .int (g i j)) := by
  intro pins s σ H x y v u Q I rx ry h
  obtain ⟨i, j, rfl, rfl, hc, q⟩ := h
  obtain ⟨t, rfl⟩ := rx
  obtain ⟨t', rfl⟩ := ry
  exact rule i j t t' s _ _ hc ⟨.int (g i j), H, I.tok _, ⟨_, rfl⟩, q⟩
theorem opI0 {f : Value → Value → Sem Value} {g : Int → Int → Int}
    (rule : ∀ (i j : Int) (t u : Tok) (s : Shared) (Q : Value → Shared → Prop) (E : Value → Shared → Prop), Q (.int (g i j) s.toks) { s with toks := s.toks + 1 } → wpAny (model X.prog X.w) X.A (f (.int i t) (.int j u)) Q E s) :
    OpR X f (rI0 fun i j => .int (g i j)) := by
  intro pins s σ H x y v u Q I rx ry h
  obtain ⟨i, j, rfl, rfl, q⟩ := h
  obtain ⟨t, rfl⟩ := rx
  obtain ⟨t', rfl⟩ := ry
  exact rule i j t t' s _ _ ⟨.int (g i j), H, I.tok _, ⟨_, rfl⟩, q⟩
theorem opB0 {f : Value → Value → Sem Value} {g : Int → Int → Bool}
    (rule : ∀ (i j : Int) (t u : Tok) (s : Shared) (Q : Value → Shared → Prop) (E : Value → Shared → Prop), Q (.bool (g i j)) s → wpAny (model X.prog X.w) X.A (f (.int i t) (.int j u)) Q E s) :
    OpR X f (rI0 fun i j => .bl (g i j)) := by
  intro pins s σ H x y v u Q I rx ry h
  obtain ⟨i, j, rfl, rfl, q⟩ := h
  obtain ⟨t, rfl⟩ := rx
  obtain ⟨t', rfl⟩ := ry
  exact rule i j t t' s _ _ ⟨.bl (g i j), H, I, rfl, q⟩

def CDiv (i j : Int) : Prop := 0 < j ∧ j < 1073741824
def CDivN (i j : Int) : Prop := j ≠ 0 ∧ j.natAbs < 1073741824
def CPow (i j : Int) : Prop := 0 ≤ j ∧ j ≤ 1000000 ∧ i.natAbs < 2 ^ 64
def CMul (i j : Int) : Prop := (-(2 ^ 64) < i ∧ i < 2 ^ 64) ∨ (-(2 ^ 64) < j ∧ j < 2 ^ 64)
theorem CMul.ok {i j : Int} (h : CMul i j) : IntMulOk i j := by
  rcases h with ⟨h1, h2⟩ | ⟨h1, h2⟩
  · exact .of_left (intBits_le_64 h1 h2)
  · exact .of_right (intBits_le_64 h1 h2)

theorem op_add : OpR X (binaryOp .Add) (rI0 fun i j => .int (i + j)) := opI0 fun _ _ _ _ _ _ _ q => add_int q
theorem op_mul : OpR X (binaryOp .Mult) (rI CMul fun i j => .int (i * j)) := opI fun _ _ _ _ _ _ _ hc q => mul_int q hc.ok
/-- // by a positive divisor -/
theorem op_fdiv : OpR X (binaryOp .FloorDiv) (rI CDiv fun i j => .int (i / j)) := opI fun i j _ _ _ _ _ hc q => by
  have h1 : (0 : Int) < j := hc.1
  have h2 : j < 1073741824 := hc.2
  exact floordiv_int (by omega) (by rw [Int.fdiv_eq_ediv_of_nonneg i (by omega)]; exact q) (.inl (PyProof.noPylong_small (by omega)))
/-- % by a positive divisor of any size -/
theorem op_mod : OpR X (binaryOp .Mod) (rI (fun _ j => 0 < j) fun i j => .int (i % j)) := opI fun i j _ _ _ _ _ hc q => by
  have h1 : (0 : Int) < j := hc
  exact mod_int' (by omega) (by rw [Int.fmod_eq_emod_of_nonneg i (by omega)]; exact q)
theorem op_modN : OpR X (binaryOp .Mod) (rI (fun _ j => j ≠ 0) fun i j => .int (i.fmod j)) := opI fun _ _ _ _ _ _ _ hc q => mod_int' hc q

theorem iop_add : OpR X (inplaceOp .Add) (rI0 fun i j => .int (i + j)) := opI0 fun _ _ _ _ _ _ _ q => iadd_int q

theorem unI {f : Value → Sem Value} {g : Int → Int}
    (rule : ∀ (i : Int) (t : Tok) (s : Shared) (Q : Value → Shared → Prop) (E : Value → Shared → Prop), Q (.int (g i) s.toks) { s with toks := s.toks + 1 } → wpAny (model X.prog X.w) X.A (f (.int i t)) Q E s) :
    UnR X f (rU fun i => .int (g i)) := by
  intro pins s σ H x v Q I rx h
  obtain ⟨i, rfl, q⟩ := h
  obtain ⟨t, rfl⟩ := rx
  exact rule i t s _ _ ⟨.int (g i), H, I.tok _, ⟨_, rfl⟩, q⟩
theorem un_neg : UnR X (unaryOp .USub) (rU fun i => .int (-i)) := unI fun _ _ _ _ _ q => neg_int q

/-! ### bools among ints: n += (a < b) -/
end

/-! ### comparisons -/
/-- the scalars that == tells apart as data does -/
def scal : V → V → Bool
  | .non, .non => true | .non, .int _ => true | .int _, .non => true | .non, .bl _ => true | .bl _, .non => true | .non, .str _ => true | .str _, .non => true
  | .int _, .int _ => true | .bl _, .bl _ => true | .str _, .str _ => true | .byt _, .byt _ => true
  | .int _, .str _ => true | .str _, .int _ => true | .bl _, .str _ => true | .str _, .bl _ => true
  | _, _ => false
def rEq : R2 := fun x y H Q => scal x y = true ∧ Q (.bl (decide (x = y))) H
def rNe : R2 := fun x y H Q => scal x y = true ∧ Q (.bl (!decide (x = y))) H

theorem dec_int {i j : Int} : decide (V.int i = V.int j) = (i == j) := by
  rw [Bool.eq_iff_iff]
  simp
theorem dec_bl {i j : Bool} : decide (V.bl i = V.bl j) = (i == j) := by
  rw [Bool.eq_iff_iff]
  simp
theorem dec_str {i j : Str} : decide (V.str i = V.str j) = (i == j) := by
  rw [Bool.eq_iff_iff]
  simp
theorem dec_byt {i j : Array UInt8} : decide (V.byt i = V.byt j) = (i.toList == j.toList) := by
  rw [Bool.eq_iff_iff]
  cases i
  cases j
  simp

section
variable {X : Cx} {a b c : Expr} {ta tb tc : TE} {pos : Pos}
theorem fin_bl {pins : List (Addr × Obj)} {σ : St} {H : Hp} {s : Shared} {Q : VK} {k k' : Bool} (I : Inv X pins σ H s) (q : Q (.bl k) H) (e : k = k') : EP X pins σ Q (.bool k') s := by
  subst e
  exact ⟨.bl k, H, I, rfl, q⟩
theorem op_eq : OpR X (compareOp .Eq) rEq := by
  intro pins s σ H x y v u Q I rx ry h
  obtain ⟨hs, q⟩ := h
  cases x with
  | non =>
    cases rx
    cases y with
    | non => cases ry; exact PySem.EqNone.eq_none_none (fin_bl I q (by simp))
    | bl j => cases ry; exact PySem.EqNone.eq_none_bool (fin_bl I q (by simp))
    | int j => obtain ⟨t', rfl⟩ := ry; exact PySem.EqNone.eq_none_int (fin_bl I q (by simp))
    | str j => obtain ⟨t', rfl⟩ := ry; exact PySem.EqNone.eq_none_str (fin_bl I q (by simp))
    | _ => exact absurd (show false = true from hs) Bool.false_ne_true
  | bl i =>
    cases rx
    cases y with
    | non => cases ry; exact PySem.EqNone.eq_bool_none (fin_bl I q (by simp))
    | bl j => cases ry; exact eq_bool (fin_bl I q dec_bl)
    | str j => obtain ⟨t', rfl⟩ := ry; exact PySem.EqMixed.eq_bool_str (fin_bl I q (by simp))
    | _ => exact absurd (show false = true from hs) Bool.false_ne_true
  | int i =>
    obtain ⟨t, rfl⟩ := rx
    cases y with
    | non => cases ry; exact PySem.EqNone.eq_int_none (fin_bl I q (by simp))
    | int j => obtain ⟨t', rfl⟩ := ry; exact eq_int (fin_bl I q dec_int)
    | str j => obtain ⟨t', rfl⟩ := ry; exact PySem.EqMixed.eq_int_str (fin_bl I q (by simp))
    | _ => exact absurd (show false = true from hs) Bool.false_ne_true
  | str i =>
    obtain ⟨t, rfl⟩ := rx
    cases y with
    | non => cases ry; exact PySem.EqNone.eq_str_none (fin_bl I q (by simp))
    | bl j => cases ry; exact PySem.EqMixed.eq_str_bool (fin_bl I q (by simp))
    | int j => obtain ⟨t', rfl⟩ := ry; exact PySem.EqMixed.eq_str_int (fin_bl I q (by simp))
    | str j => obtain ⟨t', rfl⟩ := ry; exact eq_str (fin_bl I q dec_str)
    | _ => exact absurd (show false = true from hs) Bool.false_ne_true
  | byt i =>
    obtain ⟨t, rfl⟩ := rx
    cases y with
    | byt j => obtain ⟨t', rfl⟩ := ry; exact PySem.W.eq_bytes (fin_bl I q dec_byt)
    | _ => exact absurd (show false = true from hs) Bool.false_ne_true
  | _ => cases y <;> exact absurd (show false = true from hs) Bool.false_ne_true
theorem op_ne : OpR X (compareOp .NotEq) rNe := by
  intro pins s σ H x y v u Q I rx ry h
  obtain ⟨hs, q⟩ := h
  cases x with
  | non =>
    cases rx
    cases y with
    | non => cases ry; exact PySem.EqNone.ne_none_none (fin_bl I q (by simp))
    | bl j => cases ry; exact PySem.EqNone.ne_none_bool (fin_bl I q (by simp))
    | int j => obtain ⟨t', rfl⟩ := ry; exact PySem.EqNone.ne_none_int (fin_bl I q (by simp))
    | str j => obtain ⟨t', rfl⟩ := ry; exact PySem.EqNone.ne_none_str (fin_bl I q (by simp))
    | _ => exact absurd (show false = true from hs) Bool.false_ne_true
  | bl i =>
    cases rx
    cases y with
    | non => cases ry; exact PySem.EqNone.ne_bool_none (fin_bl I q (by simp))
    | bl j => cases ry; exact ne_bool (fin_bl I q (congrArg not dec_bl))
    | str j => obtain ⟨t', rfl⟩ := ry; exact PySem.EqMixed.ne_bool_str (fin_bl I q (by simp))
    | _ => exact absurd (show false = true from hs) Bool.false_ne_true
  | int i =>
    obtain ⟨t, rfl⟩ := rx
    cases y with
    | non => cases ry; exact PySem.EqNone.ne_int_none (fin_bl I q (by simp))
    | int j => obtain ⟨t', rfl⟩ := ry; exact ne_int (fin_bl I q (congrArg not dec_int))
    | str j => obtain ⟨t', rfl⟩ := ry; exact PySem.EqMixed.ne_int_str (fin_bl I q (by simp))
    | _ => exact absurd (show false = true from hs) Bool.false_ne_true
  | str i =>
    obtain ⟨t, rfl⟩ := rx
    cases y with
    | non => cases ry; exact PySem.EqNone.ne_str_none (fin_bl I q (by simp))
    | bl j => cases ry; exact PySem.EqMixed.ne_str_bool (fin_bl I q (by simp))
    | int j => obtain ⟨t', rfl⟩ := ry; exact PySem.EqMixed.ne_str_int (fin_bl I q (by simp))
    | str j => obtain ⟨t', rfl⟩ := ry; exact ne_str (fin_bl I q (congrArg not dec_str))
    | _ => exact absurd (show false = true from hs) Bool.false_ne_true
  | byt i =>
    obtain ⟨t, rfl⟩ := rx
    cases y with
    | byt j => obtain ⟨t', rfl⟩ := ry; exact PySem.W.ne_bytes (fin_bl I q (congrArg not dec_byt))
    | _ => exact absurd (show false = true from hs) Bool.false_ne_true
  | _ => cases y <;> exact absurd (show false = true from hs) Bool.false_ne_true

theorem op_lt : OpR X (compareOp .Lt) (rI0 fun i j => .bl (decide (i < j))) := opB0 fun _ _ _ _ _ _ _ q => lt_int q
theorem op_le : OpR X (compareOp .LtE) (rI0 fun i j => .bl (decide (i ≤ j))) := opB0 fun _ _ _ _ _ _ _ q => le_int q

theorem op_notN : OpR X (compareOp .IsNot) (fun x y H Q => y = .non ∧ Q (.bl (!decide (x = .non))) H) := by
  intro pins s σ H x y v u Q I rx ry h
  obtain ⟨rfl, q⟩ := h
  cases ry
  refine isnot_none_gen (fin_bl I q ?_)
  cases x <;> first
    | (cases rx; rfl)
    | (obtain ⟨t, rfl⟩ := rx; rfl)

/-- is, is not of two objects that are tracked lists or instances -/
def isObj : HO → Bool
  | .lst _ => true
  | .ins _ _ _ => true
  | _ => false


theorem nomark (b : Expr) {op : CmpOp} (h : op ≠ .In := by decide) (h2 : op ≠ .NotIn := by decide) : behindInMarks op b = false := by
  have e1 : (op == CmpOp.In) = false := by cases op <;> first | rfl | exact absurd rfl h
  have e2 : (op == CmpOp.NotIn) = false := by cases op <;> first | rfl | exact absurd rfl h2
  cases b <;> simp [behindInMarks, e1, e2]
/-- a comparison as a value; hm: nomark b, or (for in, not in) by with_unfolding_all rfl -/
theorem pe_cmpR {op : CmpOp} {r : R2} (ho : OpR X (compareOp op) r) (ha : PE X a ta) (hb : PE X b tb) (hm : behindInMarks op b = false) : PE X (.Compare a [op] [b] pos) (tOp r ta tb) := by
  intro pins s σ H Q I h
  exact wpAny_Compare1 (binT ha hb I h fun v u s2 x y H2 I2 rx ry q => ho pins s2 σ H2 x y v u Q I2 rx ry q) hm
/-- a reading of a value as a test -/
def tTest (t : TE) : TT := fun σ H Q => t σ H fun x H' => ∃ k, x = .bl k ∧ Q k H'
theorem pt_cmpR {op : CmpOp} {r : R2} (ho : OpR X (compareOp op) r) (ha : PE X a ta) (hb : PE X b tb) (hm : behindInMarks op b = false) : PT X (.Compare a [op] [b] pos) (tTest (tOp r ta tb)) := by
  intro pins s σ H Q I h
  refine wpAny_isTrue_Compare1 (thn (ha pins s σ H _ I h) fun v s1 ⟨x, H1, I1, r1, q1⟩ => thn (hb pins s1 σ H1 _ I1 q1) fun u s2 ⟨y, H2, I2, r2, q2⟩ =>
    thn (ho pins s2 σ H2 x y v u _ I2 r1 r2 q2) fun c s3 ⟨z, H3, I3, r3, k, e, q3⟩ => ?_) hm
  subst e
  cases r3
  exact wpAny_truthy_bool ⟨H3, I3, q3⟩
/-- a op1 b op2 c -/
def tChain (r r' : R2) (ta tb tc : TE) : TE := fun σ H Q => ta σ H fun x H1 => tb σ H1 fun y H2 => r x y H2 fun z H3 => ∃ k, z = .bl k ∧
  (if k = true then tc σ H3 fun w' H4 => r' y w' H4 Q else Q (.bl false) H3)
theorem pe_chain {op op' : CmpOp} {r r' : R2} (ho : OpR X (compareOp op) r) (ho' : OpR X (compareOp op') r') (ha : PE X a ta) (hb : PE X b tb) (hc : PE X c tc)
    (hm : lastMarks [op, op'] [b, c] = false := by with_unfolding_all rfl) : PE X (.Compare a [op, op'] [b, c] pos) (tChain r r' ta tb tc) := by
  intro pins s σ H Q I h
  refine Compare_chain (thn (ha pins s σ H _ I h) fun v s1 ⟨x, H1, I1, r1, q1⟩ => chain_link (thn (hb pins s1 σ H1 _ I1 q1) fun u s2 ⟨y, H2, I2, r2, q2⟩ =>
    thn (ho pins s2 σ H2 x y v u _ I2 r1 r2 q2) fun d s3 ⟨z, H3, I3, r3, k, e, q3⟩ => ?_)) hm
  subst e
  cases r3
  refine wpAny_truthy_bool ?_
  cases k with
  | false => exact ite_ff ⟨.bl false, H3, I3, rfl, q3⟩
  | true => exact ite_tt (chain_last (thn (hc pins s3 σ H3 _ I3 q3) fun w' s4 ⟨z', H4, I4, r4, q4⟩ => ho' pins s4 σ H4 y z' u w' Q I4 r2 r4 q4))

/-! ### truth -/
/-- a value's truth by the abstract heap -/
def TruV (K : PySem.W.Frag) (x : V) (H : Hp) (k : Bool) : Prop :=
  match x with
  | .non => k = false
  | .bl b => k = b
  | .int i => k = (i != 0)
  | .str y => y.length ≤ sizeLine ∧ k = ((y.length : Int) != 0)
  | .byt y => y.size ≤ sizeLine ∧ k = ((y.size : Int) != 0)
  | .ref p => (∃ xs, SqL K H p xs ∧ k = !xs.isEmpty) ∨ (∃ xs, SqT K H p xs ∧ k = !xs.isEmpty) ∨ ∃ kvs, H p = some (.dK kvs) ∧ k = !kvs.isEmpty
  | _ => False
theorem line63 : (sizeLine : Nat) < 2 ^ 63 := by rw [sizeLine_eq]; decide

/-! ### strs and bytes -/

def PlainIxT (b : Expr) : Prop := ∀ o i, subscripted b false o i = operate [o, i] (getItem o i)

/-! ### scalar builtins, by CallR -/
theorem vals1 {x : V} {us : List Value} (r : Vals [x] us) : ∃ u, us = [u] ∧ RelV x u := by
  cases r with
  | cons r1 r2 => cases r2; exact ⟨_, rfl, r1⟩
theorem call_abs : CallR X (.builtin "abs") (fun xs H Q => ∃ i, xs = [.int i] ∧ Q (.int (if i < 0 then -i else i)) H) := by
  intro pins s σ H xs us Q I r h
  obtain ⟨i, rfl, q⟩ := h
  obtain ⟨u, rfl, t, rfl⟩ := vals1 r
  exact call_abs_int fun u tk => ⟨.int (if i < 0 then -i else i), H, I.tok _, ⟨_, rfl⟩, q⟩
/-- len of a str, a bytes, a list, a tuple -/
def LenV (K : PySem.W.Frag) (x : V) (H : Hp) (n : Nat) : Prop :=
  match x with
  | .str y => y.length ≤ sizeLine ∧ n = y.length
  | .byt y => y.size ≤ sizeLine ∧ n = y.size
  | .ref p => (∃ xs, SqL K H p xs ∧ n = xs.length) ∨ ∃ xs, SqT K H p xs ∧ n = xs.length
  | _ => False
end
end L2

namespace L2
open PySem PySem.Spec PyProof.Rows

/-! ### an instance, its attributes a map -/
structure ObjM (h : Heap) (x dx C : Addr) (mA : Str → Option Value) : Prop where
  obj : h.get? x = some (PySem.W.instObj C dx)
  ns : h.Ns1 dx mA
  ne : dx ≠ x



section
variable {prog : Program} {w : World} {A : Around} {E : Value → Shared → Prop} {s : Shared} {K : PySem.W.Frag} {x dx C f : Addr} {mA : Str → Option Value} {name : Str} {v : Value}





end

/-! ### the attributes as a list of pairs -/
def putF (f : Str) (v : V) : List (Str × V) → List (Str × V)
  | [] => [(f, v)]
  | (g, x) :: r => if g = f then (g, v) :: r else (g, x) :: putF f v r


section
variable {P : Program} {w : World} {H H' : Hp} {h h' : Heap} {a C dx : Addr} {fs fs' : List (Str × V)}
end

/-! ### what of the text a class must have -/
structure Cls (K : PySem.W.Frag) (C : Addr) : Prop where
  pg : PySem.W.plainGet K C Str.empty = true
  hd : PySem.W.hasDictIn K C = true
  po : PySem.W.plainOver K C = true
  sa : PySem.W.findIn K (.ref C) "__setattr__" = some (some (.builtin "object.__setattr__"))
/-- no class of it has the name -/
def NoAttr (K : PySem.W.Frag) (C : Addr) (f : Str) : Prop := PySem.W.findIn K (.ref C) f = some none
/-- a constant of the class -/
structure Con (K : PySem.W.Frag) (C : Addr) (f : Str) (v : V) (u : Value) : Prop where
  at_ : PySem.W.findIn K (.ref C) f = some (some u)
  rel : RelV v u
  get : PySem.W.specialIn K u "__get__" = some none
  cp : PySem.W.copiedNames.contains f = false
/-- a method: a plain def of the class or of one above it -/
structure Meth (K : PySem.W.Frag) (C : Addr) (m : Str) (f : Addr) : Prop where
  at_ : PySem.W.findIn K (.ref C) m = some (some (.ref f))
  fn : PySem.W.isFn K (.ref f) = true
  kp : PySem.W.keepIn K (.ref f) = true

section
variable {X : Cx} {pins : List (Addr × Obj)} {σ : St} {H : Hp} {s : Shared} {a C dx : Addr} {fs : List (Str × V)} {f : Str} {v : V} {A : Around} {E : Value → Shared → Prop}






end

/-! ### readings and rules -/
/-- e.f, an attribute of the instance -/
def tFld (K : PySem.W.Frag) (ta : TE) (f : Str) : TE := fun σ H Q => ta σ H fun x H1 => ∃ a C dx fs v, x = .ref a ∧ H1 a = some (.ins C dx fs) ∧ Cls K C ∧ NoAttr K C f ∧ fs.lookup f = some v ∧ Q v H1
/-- e.f, a constant of the class -/
def tCon (K : PySem.W.Frag) (ta : TE) (f : Str) : TE := fun σ H Q => ta σ H fun x H1 => ∃ a C dx fs v u, x = .ref a ∧ H1 a = some (.ins C dx fs) ∧ Cls K C ∧ Con K C f v u ∧ fs.lookup f = none ∧ Q v H1
/-- e.f = value -/
def sFld (K : PySem.W.Frag) (ta tv : TE) (f : Str) : TS := fun D σ H => tv σ H fun y H1 => ta σ H1 fun x H2 => ∃ a C dx fs, x = .ref a ∧ H2 a = some (.ins C dx fs) ∧ Cls K C ∧ NoAttr K C f ∧ fs.length < 1000 ∧
  D.nx σ (upd H2 a (.ins C dx (putF f y fs)))
/-- an augmented operator on two values -/
def InOp (X : Cx) (op : Operator) (rd : V → V → Hp → VK → Prop) : Prop :=
  ∀ (pins : List (Addr × Obj)) (s : Shared) (σ : St) (H : Hp) (x y : V) (u v : Value) (Q : VK), Inv X pins σ H s → RelV x u → RelV y v → rd x y H Q → wpAny (model X.prog X.w) X.A (inplaceOp op u v) (EP X pins σ Q) X.xe s
/-- e.f op= value -/
def sFldAug (K : PySem.W.Frag) (ta tv : TE) (rd : V → V → Hp → VK → Prop) (f : Str) : TS := fun D σ H => ta σ H fun x H1 => ∃ a C dx fs v, x = .ref a ∧ H1 a = some (.ins C dx fs) ∧ Cls K C ∧ NoAttr K C f ∧ fs.lookup f = some v ∧
  tv σ H1 fun y H2 => rd v y H2 fun z H3 => ∃ dx' fs', H3 a = some (.ins C dx' fs') ∧ fs'.length < 1000 ∧ D.nx σ (upd H3 a (.ins C dx' (putF f z fs')))

section
variable {X : Cx} {o e value : Expr} {f : Str} {pos pos' tpos : Pos} {ta tv : TE}
def rAdd : V → V → Hp → VK → Prop := fun x y H Q => ∃ i j, x = .int i ∧ y = .int j ∧ Q (.int (i + j)) H
def rSub : V → V → Hp → VK → Prop := fun x y H Q => ∃ i j, x = .int i ∧ y = .int j ∧ Q (.int (i - j)) H

end

/-! ### isinstance -/
section
variable {X : Cx} {pins : List (Addr × Obj)} {σ : St} {H : Hp} {s : Shared} {A : Around} {E : Value → Shared → Prop} {Q : Value → Shared → Prop} {c : Value} {b : Bool}
/-- the type of a value, as the fragment's deciders take it; for an instance its class -/
inductive TyOf (K : PySem.W.Frag) (H : Hp) : V → Value → Prop where
  | non : TyOf K H .non (.type "NoneType")
  | bl (x : Bool) : TyOf K H (.bl x) (.type "bool")
  | int (i : Int) : TyOf K H (.int i) (.type "int")
  | str (x : Str) : TyOf K H (.str x) (.type "str")
  | flt (x : UInt64) : TyOf K H (.flt x) (.type "float")
  | lst {a : Addr} {xs : List V} (e : H a = some (.lst xs)) : TyOf K H (.ref a) (.type "list")
  | frz {a : Addr} {o : Obj} {xs : List V} (e : H a = some (.frz o (.lst xs))) : TyOf K H (.ref a) (.type "list")
  | tup {a : Addr} {xs : List V} (e : H a = some (.tup xs)) : TyOf K H (.ref a) (.type "tuple")
  | dK {a : Addr} {kvs : List (Key × V)} (e : H a = some (.dK kvs)) : TyOf K H (.ref a) (.type "dict")
  | dT {a : Addr} {kvs : List (List Key × V)} (e : H a = some (.dT kvs)) : TyOf K H (.ref a) (.type "dict")
  | ins {a C dx : Addr} {fs : List (Str × V)} (e : H a = some (.ins C dx fs)) (cl : Cls K C) (ha : PySem.W.findIn K (.ref C) "__class__" = some (some (.builtin "object.__class__")))
      (hn : PySem.W.specialIn K (.builtin "object.__class__") "__get__" = some (some (.builtin "getset_descriptor.__get__"))) (htk : PySem.W.takesIn K (.builtin "object.__class__") = some true)
      (hm : PySem.W.mroIn K C (.type "object") = some true) : TyOf K H (.ref a) (.ref C)
end
end L2

namespace L2
open PySem PySem.Spec PyProof.Rows

/-! ### room -/
structure Room (k : Nat) (A : Around) : Prop where
  hd : A.handled = none
  dp : A.depth + 3 * k + 5 < recursionLimit
  un : A.units + 16 * k + 200 < cLine
theorem Room.mono {j k : Nat} {A : Around} (r : Room k A) (h : j ≤ k) : Room j A := ⟨r.hd, by have := r.dp; omega, by have := r.un; omega⟩
theorem Room.deeper {k : Nat} {A : Around} (r : Room (k + 1) A) (env : Env) : Room k (A.deeper env) :=
  ⟨r.hd, by have := r.dp; show A.depth + 1 + 3 * k + 5 < _; omega, by have := r.un; show A.units + 3 + 16 * k + 200 < _; omega⟩
theorem Room.in1 {k : Nat} {A : Around} (r : Room (k + 1) A) : Room k A.in1 :=
  ⟨r.hd, by have := r.dp; show A.depth + 3 * k + 5 < _; omega, by have := r.un; show A.units + 1 + 16 * k + 200 < _; omega⟩
theorem Room.depth {k : Nat} {A : Around} (r : Room k A) : A.depth < recursionLimit := by have := r.dp; omega
theorem Room.units0 {k : Nat} {A : Around} (r : Room k A) : A.units < cLine := by have := r.un; omega

/-! ### argument lists and displays -/
def tNil : TA := fun _ H Q => Q [] H
def tCons (ta : TE) (tr : TA) : TA := fun σ H Q => ta σ H fun x H1 => tr σ H1 fun xs H2 => Q (x :: xs) H2
section
variable {X : Cx} {e : Expr} {es : List Expr} {te : TE} {t : TA} {pos : Pos}
theorem pa_nil : PA X [] tNil := fun _ _ _ _ H Q I h => Calls.spliced_nil ⟨[], H, I, .nil, h⟩
theorem pa_cons (ha : PE X e te) (hr : PA X es t) (hs : starEach (e :: es) X.env = (false, eval e X.env) :: starEach es X.env := by rfl) : PA X (e :: es) (tCons te t) := by
  intro pos pins s σ H Q I h
  rw [hs]
  show wpAny _ _ (spliced ((false, eval e X.env) :: backTo pos (starEach es X.env))) _ _ s
  refine Calls.spliced_cons (thn (ha pins s σ H _ I h) fun u s1 ⟨x, H1, I1, r1, q1⟩ => ?_)
  exact thn (hr pos pins s1 σ H1 _ I1 q1) fun us s2 ⟨xs, H2, I2, r2, q2⟩ => ⟨x :: xs, H2, I2, .cons r1 r2, q2⟩

/-- a tuple, a list of written items -/
def tTup (t : TA) : TE := fun σ H Q => t σ H fun xs H1 => xs.length ≤ sizeLine ∧ ∀ p, H1 p = none → Q (.ref p) (upd H1 p (.tup xs))
def tLst (t : TA) : TE := fun σ H Q => t σ H fun xs H1 => xs.length ≤ sizeLine ∧ ∀ p, H1 p = none → Q (.ref p) (upd H1 p (.lst xs))
theorem pe_lst (h : PA X es t) : PE X (.List es pos) (tLst t) := by
  intro pins s σ H Q I hq
  refine wpAny_List_spliced (thn (h pos pins s σ H _ I hq) fun us s1 ⟨xs, H1, I1, r, z, q⟩ => ⟨by rw [← r.length]; exact z, ?_⟩)
  have hf : H1 s1.heap.objs.size = none := I1.hok.fresh (Nat.le_refl _)
  refine ⟨.ref s1.heap.objs.size, upd H1 s1.heap.objs.size (.lst xs), I1.laid (t' := s1.toks) (fun b u e => Heap.get?_push_of_some _ e) (Nat.le_refl _) ?_, rfl, q _ hf⟩
  exact ⟨z, us, 0, r, Heap.get?_push_size _ rfl⟩
end

/-! ### what a def promises -/
/-- a def's promise: the bound arguments in the parameters' order, the heap, the wanted end, the wanted exception -/
abbrev Sp := List V → Hp → VK → XK → Prop
/-- how an exception lies behind a call (file 08 gives it): the callers' frames, abstract heap and state ahead of the call, the wish, the exception, the state -/
abbrev CXT := List Env → Hp → Shared → XK → Value → Shared → Prop

/-- the state at a call -/
structure Env0 (P : Program) (w : World) (K : PySem.W.Frag) (mg : Str → Option Value) (base : Heap) (A : Around) (outer : List Env) (s : Shared) (H : Hp) : Prop where
  frames : A.frames = some outer
  mod : Mod K mg base
  bs : ∀ b o, base.get? b = some o → s.heap.get? b = some o ∧ H b = none
  bsz : base.objs.size ≤ s.heap.objs.size
  funs : s.heap.FunFrames base outer
  frf : ∀ b ∈ frs outer, H b = none
  hok : HOk P w H s.heap
  bare : AllBare s.gens
/-- a call's end -/
def CE (outer : List Env) (P : Program) (w : World) (H : Hp) (s : Shared) (Q : VK) (u : Value) (s' : Shared) : Prop :=
  ∃ v H', s'.os = s.os ∧ AllBare s'.gens ∧ Un (frs outer) [] H H' s.heap s'.heap ∧ HOk P w H' s'.heap ∧ RelV v u ∧ Q v H'
def CR (CX : CXT) (outer : List Env) (P : Program) (w : World) (H : Hp) (s : Shared) (Q : VK) (E : XK) (r : Result) (s' : Shared) : Prop :=
  match r with
  | .ok (.ret u) => CE outer P w H s Q u s'
  | .ok _ => False
  | .error e => CX outer H s E e s'
structure FnOk (P : Program) (w : World) (K : PySem.W.Frag) (mg : Str → Option Value) (base : Heap) (CX : CXT) (k : Nat) (f : Addr) (fd : FuncData) (ps : List Str) (sp : Sp) : Prop where
  len : ∀ vs H Q E, sp vs H Q E → vs.length = ps.length
  run : ∀ (A : Around) (outer : List Env) (s : Shared) (H : Hp) (args : Args) (us : List Value) (vs : List V) (Q : VK) (E : XK), Room k A → Env0 P w K mg base A outer s H → BindsTo s fd args (ps.zip us) → Vals vs us → sp vs H Q E →
    codeAny (model P w) A (.call (.ref f) args) (CR CX outer P w H s Q E) s
theorem FnOk.mono {P : Program} {w : World} {K : PySem.W.Frag} {mg : Str → Option Value} {base : Heap} {CX : CXT} {j k : Nat} {f : Addr} {fd : FuncData} {ps : List Str} {sp : Sp} (F : FnOk P w K mg base CX j f fd ps sp) (h : j ≤ k) :
    FnOk P w K mg base CX k f fd ps sp := ⟨F.len, fun A outer s H args us vs Q E hr => F.run A outer s H args us vs Q E (hr.mono h)⟩


section
variable {X : Cx} {pins : List (Addr × Obj)} {σ : St} {H : Hp} {s s' : Shared}
/-- from a body: what a callee wants -/
theorem Inv.env0 (I : Inv X pins σ H s) : Env0 X.prog X.w X.K X.mg X.base X.A X.stack s H :=
  ⟨I.ok.frames, I.ok.mod, I.bs, Nat.le_trans I.ok.bsz I.sz, I.stack, I.stkFree, I.hok, I.bare⟩
/-- behind a call -/
theorem Inv.after {Q : VK} {u : Value} (I : Inv X pins σ H s) (h : CE X.stack X.prog X.w H s Q u s') : EP X pins σ Q u s' := by
  obtain ⟨v, H', os, bare, un, hok, r, q⟩ := h
  obtain ⟨hh, g, d, t, os'⟩ := s'
  obtain rfl : os' = s.os := os
  exact ⟨v, H', I.call (h' := hh) (g' := g) (d' := d) (t' := t) (ch := []) un hok bare (fun b z => absurd z (by simp)), r, q⟩
end

/-! ### calls -/
/-- f(..): the written arguments, then the defaults dvs; E: what is wanted of an exception -/
def tCall (sp : Sp) (dvs : List V) (E : XK) (t : TA) : TE := fun σ H Q => t σ H fun vs H1 => sp (vs ++ dvs) H1 Q E
/-- o.m(..) of an instance of the class at C -/
def tMeth (C : Addr) (m : Str) (sp : Sp) (dvs : List V) (E : XK) (ta : TE) (t : TA) : TE := fun σ H Q => ta σ H fun x H1 => ∃ a dx fs, x = .ref a ∧ H1 a = some (.ins C dx fs) ∧ fs.lookup m = none ∧
  t σ H1 fun vs H2 => sp (x :: (vs ++ dvs)) H2 Q E
/-- C(..): a new instance and its dict, then __init__ -/
def tMake (C : Addr) (sp : Sp) (dvs : List V) (E : XK) (t : TA) : TE := fun σ H Q => t σ H fun vs H1 => ∀ x dx, H1 x = none → H1 dx = none → dx ≠ x →
  sp (.ref x :: (vs ++ dvs)) (upd (upd H1 dx (.own x)) x (.ins C dx [])) (fun v H2 => v = .non ∧ Q (.ref x) H2) E

/-- how the parameters are bound: us the positional arguments, kw the keywords' values by name, ds the defaults that fill up -/
def Binds (K : PySem.W.Frag) (fd : FuncData) (ps : List Str) (ds : List Value) : Prop :=
  ∀ (s : Shared) (us : List Value), K.In s.heap → (us ++ ds).length = ps.length → BindsTo s fd ⟨us, []⟩ (ps.zip (us ++ ds))
/-- every parameter is given -/
theorem Binds.all {K : PySem.W.Frag} {fd : FuncData} {ps : List Str} (h : ∀ us : List Value, us.length = ps.length → bindArgs fd ⟨us, []⟩ = pure (ps.zip us)) : Binds K fd ps [] := fun s us _ hl => by
  rw [List.append_nil] at hl ⊢
  exact .of_eq (h us hl)

/-- an exception of a callee reaches what this body wants of exceptions -/
def Passes (CX : CXT) (X : Cx) (E : XK) : Prop := ∀ (pins : List (Addr × Obj)) (σ : St) (H : Hp) (s : Shared) (e : Value) (s' : Shared), Inv X pins σ H s → CX X.stack H s E e s' → X.xe e s'

section
variable {X : Cx} {CX : CXT} {k : Nat} {f C : Addr} {fd : FuncData} {ps : List Str} {sp : Sp} {dvs : List V} {ds : List Value} {E : XK} {x m : Str} {p pos apos : Pos} {e o : Expr} {es : List Expr} {ta : TE} {t : TA}

/-- the callee runs -/
theorem run_fn {pins : List (Addr × Obj)} {σ : St} {H : Hp} {s : Shared} {Q : VK} {us : List Value} {vs : List V} (F : FnOk X.prog X.w X.K X.mg X.base CX k f fd ps sp) (hr : Room k X.A) (hb : Binds X.K fd ps ds) (hd : Vals dvs ds) (hx : Passes CX X E)
    (I : Inv X pins σ H s) (r : Vals vs us) (h : sp (vs ++ dvs) H Q E) : wpAny (model X.prog X.w) X.A (call (.ref f) us) (EP X pins σ Q) X.xe s := by
  have r2 : Vals (vs ++ dvs) (us ++ ds) := r.append hd
  have hl : (us ++ ds).length = ps.length := by rw [← r2.length]; exact F.len _ _ _ _ h
  refine wpAny_call (codeAny_mono (F.run X.A X.stack s H ⟨us, []⟩ (us ++ ds) (vs ++ dvs) Q E hr I.env0 (hb s us I.kIn hl) r2 h) fun r s' hq => ?_)
  cases r with
  | error e => exact hx pins σ H s e s' I hq
  | ok fl =>
    cases fl with
    | ret u => exact I.after hq
    | next => exact False.elim hq
    | brk => exact False.elim hq
    | cont => exact False.elim hq

theorem pe_call (F : FnOk X.prog X.w X.K X.mg X.base CX k f fd ps sp) (hr : Room k X.A) (hg : Gl X x) (hm : X.mg x = some (.ref f)) (hk : PySem.W.keepIn X.K (.ref f) = true) (hb : Binds X.K fd ps ds) (hd : Vals dvs ds) (hx : Passes CX X E)
    (ha : PA X (e :: es) t) (hdb : (x == ("__debug__" : Str)) = false := by decide) (he : starEach (e :: es) X.env = (false, eval e X.env) :: starEach es X.env := by rfl) (hpl : (backTo pos (starEach es X.env)).any (·.1) = false := by rfl) :
    PE X (.Call (.Name x p) (e :: es) [] pos) (tCall sp dvs E t) := by
  intro pins s σ H Q I h
  refine wpAny_Call_Name_kw (ld_glob I hg hm ?_ hdb)
  refine PySem.W.callWith_K (h₀ := X.base) I.ok.mod.kin hk (thn (ha pos pins s σ H _ I h) fun us s1 ⟨vs, H1, I1, r, q⟩ => ⟨I1.kIn, ?_⟩) he hpl
  exact run_fn F hr hb hd hx I1 r q
theorem pe_call0 (F : FnOk X.prog X.w X.K X.mg X.base CX k f fd ps sp) (hr : Room k X.A) (hg : Gl X x) (hm : X.mg x = some (.ref f)) (hk : PySem.W.keepIn X.K (.ref f) = true) (hb : Binds X.K fd ps ds) (hd : Vals dvs ds) (hx : Passes CX X E)
    (hdb : (x == ("__debug__" : Str)) = false := by decide) : PE X (.Call (.Name x p) [] [] pos) (tCall sp dvs E tNil) := by
  intro pins s σ H Q I h
  refine wpAny_Call_Name_kw (ld_glob I hg hm ?_ hdb)
  exact PySem.W.callWith_K0 I.kIn hk (run_fn (us := []) F hr hb hd hx I .nil h)


/-- what a class must have to be made -/
structure Mk (K : PySem.W.Frag) (C f : Addr) : Prop where
  makes : PySem.W.makesIn K C = true
  init : PySem.W.findIn K (.ref C) "__init__" = some (some (.ref f))
  fn : PySem.W.isFn K (.ref f) = true
  kp : PySem.W.keepIn K (.ref C) = true

end

/-! ### keywords -/
/-- the values of the keywords, from the left -/
def PK (X : Cx) (kws : List Keyword) (t : TA) : Prop :=
  ∀ (pos : Pos) (pins : List (Addr × Obj)) (s : Shared) (σ : St) (H : Hp) (Q : List V → Hp → Prop), Inv X pins σ H s → t σ H Q → wpAny (model X.prog X.w) X.A (evalAll ((backToKw pos (keywordEach kws X.env)).map (·.2))) (AP X pins σ Q) X.xe s
section
variable {X : Cx} {CX : CXT} {k : Nat} {f C : Addr} {fd : FuncData} {ps ks : List Str} {sp : Sp} {E : XK} {x m : Str} {p pos apos kpos : Pos} {e o : Expr} {es : List Expr} {kws : List Keyword} {te ta : TE} {t tk : TA} {nm : Option Str}

/-- how a call with keywords binds: g puts the positional values us and the keywords' values ws (names ks) in the parameters' order, defaults among them -/
structure KBinds (K : PySem.W.Frag) (fd : FuncData) (ps ks : List Str) (g : List Value → List Value → List Value) (gV : List V → List V → List V) : Prop where
  to : ∀ (s : Shared) (us ws : List Value), K.In s.heap → (g us ws).length = ps.length → BindsTo s fd ⟨us, ks.zip ws⟩ (ps.zip (g us ws))
  rel : ∀ {vs : List V} {us : List Value} {zs : List V} {ws : List Value}, Vals vs us → Vals zs ws → Vals (gV vs zs) (g us ws)
def tCallK (sp : Sp) (gV : List V → List V → List V) (E : XK) (t tk : TA) : TE := fun σ H Q => t σ H fun vs H1 => tk σ H1 fun zs H2 => sp (gV vs zs) H2 Q E
variable {g : List Value → List Value → List Value} {gV : List V → List V → List V}
end

/-! ### a def's body keeps its promise -/
/-- names: the parameters first -/
structure FnScope (N P : List Str) (sc : Scope) : Prop where
  kind : sc.kind = .function
  co : sc.isCoroutine = false
  gen : sc.isGenerator = false
  nd : N.Nodup
  pre : N.take P.length = P
  par : ∀ x ∈ P, sc.names.lookup x = some .local ∨ sc.names.lookup x = some .cell
  nofree : ∀ y ∈ sc.names, y.2 ≠ .free

theorem bindL_out {kindOf : Str → Option NameKind} {x : Str} : ∀ {binds : List (Str × Value)} {m : Str → Option Value}, (∀ v, (x, v) ∉ binds) → bindL kindOf binds m x = m x
  | [], _, _ => rfl
  | (n, v) :: r, m, h => by
    unfold bindL
    rw [bindL_out fun w hw => h w (List.mem_cons_of_mem _ hw)]
    split
    · have : x ≠ n := by rintro rfl; exact h v List.mem_cons_self
      simp [this]
    · rfl
theorem bindC_out {kindOf : Str → Option NameKind} {x : Str} : ∀ {binds : List (Str × Value)} {m : Str → Option Value}, (∀ v, (x, v) ∉ binds) → bindC kindOf binds m x = m x
  | [], _, _ => rfl
  | (n, v) :: r, m, h => by
    unfold bindC
    rw [bindC_out fun w hw => h w (List.mem_cons_of_mem _ hw)]
    split
    · rfl
    · have : x ≠ n := by rintro rfl; exact h v List.mem_cons_self
      simp [this]
theorem bindL_get {kindOf : Str → Option NameKind} {x : Str} {v : Value} : ∀ {P : List Str} {vs : List Value} {i : Nat} {m : Str → Option Value}, P.Nodup → P[i]? = some x → vs[i]? = some v → kindOf x = some .local →
    bindL kindOf (P.zip vs) m x = some v
  | [], _, _, _, _, h, _, _ => by simp at h
  | _ :: _, [], _, _, _, _, h, _ => by simp at h
  | p :: P, w :: vs, 0, m, nd, h1, h2, hk => by
    simp at h1 h2; subst h1; subst h2
    show bindL kindOf ((p, w) :: P.zip vs) m p = _
    unfold bindL
    rw [bindL_out fun v hv => (List.nodup_cons.mp nd).1 (List.of_mem_zip hv).1, if_pos hk]
    simp
  | p :: P, w :: vs, i + 1, m, nd, h1, h2, hk => by
    show bindL kindOf ((p, w) :: P.zip vs) m x = _
    unfold bindL
    exact bindL_get (i := i) (List.nodup_cons.mp nd).2 (by simpa using h1) (by simpa using h2) hk
theorem bindC_get {kindOf : Str → Option NameKind} {x : Str} {v : Value} : ∀ {P : List Str} {vs : List Value} {i : Nat} {m : Str → Option Value}, P.Nodup → P[i]? = some x → vs[i]? = some v → kindOf x ≠ some .local →
    bindC kindOf (P.zip vs) m x = some v
  | [], _, _, _, _, h, _, _ => by simp at h
  | _ :: _, [], _, _, _, _, h, _ => by simp at h
  | p :: P, w :: vs, 0, m, nd, h1, h2, hk => by
    simp at h1 h2; subst h1; subst h2
    show bindC kindOf ((p, w) :: P.zip vs) m p = _
    unfold bindC
    rw [bindC_out fun v hv => (List.nodup_cons.mp nd).1 (List.of_mem_zip hv).1, if_neg hk]
    simp
  | p :: P, w :: vs, i + 1, m, nd, h1, h2, hk => by
    show bindC kindOf ((p, w) :: P.zip vs) m x = _
    unfold bindC
    exact bindC_get (i := i) (List.nodup_cons.mp nd).2 (by simpa using h1) (by simpa using h2) hk

/-- the names' values at the entry -/
def start (N : List Str) (vs : List V) : St := vs.map some ++ List.replicate (N.length - vs.length) none

/-- the context of a def's body, at its entry; an exception leaves the frame, then lies as CX says -/
def cxOf (CX : CXT) (P : Program) (w : World) (K : PySem.W.Frag) (mg : Str → Option Value) (base : Heap) (N : List Str) (qual : Str) (scope : Scope) (f : Addr) (cd : Value) (A : Around) (outer : List Env) (s : Shared) (H : Hp) (E : XK) : Cx where
  prog := P
  w := w
  K := K
  mg := mg
  base := base
  A := A.deeper (envOfC qual scope s.heap.objs.size f cd)
  N := N
  s_0 := s
  H_0 := H
  env := envOfC qual scope s.heap.objs.size f cd
  outer := outer
  stack := envOfC qual scope s.heap.objs.size f cd :: outer
  ex := []
  calm := true
  fn := fun _ => true
  pn := []
  xe := fun e s' => wpAny (model P w) (A.deeper (envOfC qual scope s.heap.objs.size f cd)) (leaving (envOfC qual scope s.heap.objs.size f cd) e) (fun _ s'' => CX outer H s E e s'') (fun e' s'' => CX outer H s E e' s'') s'

theorem cell_has {sc : Scope} {n : Nat} {x : Str} (h : sc.names.lookup x = some .cell) : ∃ c, (cellsFrom n sc.names []).lookup x = some c := by
  have q := PySem.W.cellsFrom_some sc.names n [] (.inl h)
  exact Option.isSome_iff_exists.mp q

theorem inv_start {CX : CXT} {P : Program} {w : World} {K : PySem.W.Frag} {mg : Str → Option Value} {base : Heap} {N ps : List Str} {qual : Str} {scope : Scope} {f : Addr} {cd : Value} {A : Around} {outer : List Env} {s s1 : Shared} {H : Hp} {E : XK} {us : List Value} {vs : List V}
    (S : FnScope N ps scope) (hd : A.handled = none) (e0 : Env0 P w K mg base A outer s H) (hl : vs.length = ps.length) (r : Vals vs us)
    (x : InCallC s s.heap.objs.size (bindL (envOfC qual scope s.heap.objs.size f cd).kindOf (ps.zip us) fun _ => none) (cellsFrom (s.heap.objs.size + 1) scope.names []) (bindC (envOfC qual scope s.heap.objs.size f cd).kindOf (ps.zip us) fun _ => none) s1) :
    Inv (cxOf CX P w K mg base N qual scope f cd A outer s H E) [] (start N vs) H s1 := by
  have hpl : ps.length ≤ N.length := by have := congrArg List.length S.pre; rw [List.length_take] at this; omega
  obtain ⟨h1, tk, rfl, hk⟩ := x.done
  have noA : ∀ b : Addr, b ∉ (cxOf CX P w K mg base N qual scope f cd A outer s H E).ex := fun b z => absurd (show b ∈ ([] : List Addr) from z) (by simp)
  refine ⟨⟨e0.mod, S.kind, rfl, rfl, Nat.le_refl _, fun y z c h1 h2 => ?_, fun y hy => ?_, fun y c _ h => ?_, fun _ => hd, Around.frames_deeper e0.frames, .inr ⟨rfl, rfl⟩, fun b z => absurd z (noA b), e0.bs, e0.bsz, fun b _ _ => noA b, fun b z => absurd z (noA b), e0.funs, e0.frf⟩,
    rfl, e0.bare, Un.kept hk, ⟨_, x.toInCall.ns, fun i y v h1 h2 h3 => ?_⟩, fun y c h => ⟨_, x.cell y c h⟩, e0.hok.fresh (Nat.le_refl _), fun y c h => ?_, fun p hp => absurd (show p ∈ ([] : List (Addr × Obj)) from hp) (by simp), e0.hok.kept hk, ?_⟩
  · exact name_of_addr x.apart (PySem.mem_of_lookup h1) (PySem.mem_of_lookup h2)
  · have hy : scope.names.lookup y = some .cell ∨ scope.names.lookup y = some .free := hy
    rcases hy with hy | hy
    · exact cell_has hy
    · exact absurd rfl (S.nofree _ (PySem.mem_of_lookup hy))
  · exact Nat.le_of_lt (x.above y c (PySem.mem_of_lookup h))
  · have hi : i < vs.length := by
      unfold start at h2
      by_cases hi : i < vs.length
      · exact hi
      · rw [List.getElem?_append_right (by simpa using hi)] at h2
        rw [List.getElem?_replicate] at h2
        split at h2 <;> cases h2
    have ha : vs[i]? = some v := by
      unfold start at h2
      rw [List.getElem?_append_left (by simpa using hi), List.getElem?_map] at h2
      cases e : vs[i]? with
      | none => rw [e] at h2; cases h2
      | some a => rw [e] at h2; cases h2; rfl
    obtain ⟨u, hu, rv⟩ := r.get ha
    have hp : ps[i]? = some y := by
      rw [← S.pre, List.getElem?_take_of_lt (by omega)]; exact h1
    have ndP : ps.Nodup := by rw [← S.pre]; exact S.nd.sublist (List.take_sublist _ _)
    refine ⟨u, rv, ?_⟩
    rcases S.par y (List.mem_of_getElem? hp) with k | k
    · exact .inl ⟨k, bindL_get ndP hp hu k⟩
    · obtain ⟨c, e⟩ := cell_has (n := s.heap.objs.size + 1) k
      refine .inr ⟨.inl k, c, e, ?_⟩
      have q := x.cell y c e
      rw [bindC_get ndP hp hu (by show scope.names.lookup y ≠ _; rw [k]; decide)] at q
      exact q
  · exact e0.hok.fresh (Nat.le_of_lt (x.above y c (PySem.mem_of_lookup h)))
  · unfold start
    show _ = N.length
    rw [List.length_append, List.length_map, List.length_replicate]
    omega

/-- THE RULE: a def (or a method) of the text, by its body. The body's reading t is chosen for each entry; it is run at the parameters' values -/
theorem fn_of {CX : CXT} {P : Program} {w : World} {K : PySem.W.Frag} {mg : Str → Option Value} {base : Heap} {k : Nat} {f : Addr} {name qual : Str} {params : Arguments} {body : List Stmt} {scope : Scope} {dV kV doc pm cdv ct oc : Value} {an od : Option Addr}
    {osl : Array (Option Value)} {N ps : List Str} {sp : Sp} (lk : K.lookup f = some ⟨oc, od, .func (PySem.W.fnOf name qual params body scope dV kV doc pm an cdv ct), osl⟩) (hcd : PySem.W.codeIn K cdv qual = true) (S : FnScope N ps scope)
    (len : ∀ vs H Q E, sp vs H Q E → vs.length = ps.length)
    (hbody : ∀ (A : Around) (outer : List Env) (s : Shared) (H : Hp) (vs : List V) (Q : VK) (E : XK), Room k (A.deeper (envOfC qual scope s.heap.objs.size f cdv)) → sp vs H Q E →
      ∃ t, PSs (cxOf CX P w K mg base N qual scope f cdv A outer s H E) body t ∧ t { nx := fun _ H' => Q .non H', rt := Q } (start N vs) H) :
    FnOk P w K mg base CX (k + 1) f (PySem.W.fnOf name qual params body scope dV kV doc pm an cdv ct) ps sp := by
  refine ⟨len, fun A outer s H args us vs Q E hr e0 hb r hsp => ?_⟩
  have hl := len _ _ _ _ hsp
  have KX : K.In s.heap := e0.mod.kin.keeps fun b o e => (e0.bs b o e).1
  have lim : s.heap.NoLimit := e0.mod.nolimit.keeps fun b o e => (e0.bs b o e).1
  have hkind : ∀ y ∈ ps.zip us, scope.names.lookup y.1 = some .local ∨ (scope.names.lookup y.1 = some .cell ∧ ((cellsFrom (s.heap.objs.size + 1) scope.names []).lookup y.1).isSome = true) := fun ⟨n, v⟩ hy => by
    rcases S.par n (List.of_mem_zip hy).1 with q | q
    · exact .inl q
    · exact .inr ⟨q, PySem.W.cellsFrom_some _ _ _ (.inl q)⟩
  refine codeAny_call_function hr.depth (KX _ _ lk) rfl S.co S.gen rfl (PySem.W.codeRec_of KX hcd) (hb _ _ _ _ ?_)
  refine wpAny_newFunctionEnv_cells S.kind hkind fun env he s1 x => ?_
  subst he
  refine ⟨lim.keeps x.toInCall.keep, codeAny_func ?_⟩
  obtain ⟨t, ht, hq⟩ := hbody A outer s H vs Q E (hr.deeper _) hsp
  have I : Inv (cxOf CX P w K mg base N qual scope f cdv A outer s H E) [] (start N vs) H s1 := inv_start S hr.hd e0 hl r x
  refine wpAny_mono (ht [] s1 (start N vs) H _ I hq) (fun fl s' hs => ?_) fun e s' hs => hs
  have fin : ∀ {σ' : St} {H' : Hp} {v : V} {u : Value}, Inv (cxOf CX P w K mg base N qual scope f cdv A outer s H E) [] σ' H' s' → RelV v u → Q v H' → CE outer P w H s Q u s' :=
    fun {σ' H' v u} J rv q => ⟨v, H', J.os, J.bare, J.base, J.hok, rv, q⟩
  cases fl with
  | ret u =>
    obtain ⟨v, σ', H', J, rv, q⟩ := hs
    exact fin J rv q
  | next =>
    obtain ⟨σ', H', J, q⟩ := hs
    exact fin (v := V.non) (u := Value.none) J rfl q
  | brk =>
    obtain ⟨_, _, _, q⟩ := hs
    exact False.elim q
  | cont =>
    obtain ⟨_, _, _, q⟩ := hs
    exact False.elim q
end L2

namespace L2
open PySem PySem.Spec PyProof.Rows
section
variable {X : Cx} {x : Str} {p pos : Pos} {e : Expr} {es : List Expr} {t : TA} {id T : String} {r : List V → Hp → VK → Prop}

def tCB (r : List V → Hp → VK → Prop) (t : TA) : TE := fun σ H Q => t σ H fun vs H1 => r vs H1 Q
/-- f(e, ..), f a built-in function -/
theorem pe_callB (hc : CallR X (.builtin id) r) (hg : Gl X x) (hm : X.mg x = none) (hv : bootBuiltins x = some (.builtin id)) (ha : PA X (e :: es) t) (hn : x ≠ "__name__" := by decide) (hdb : (x == ("__debug__" : Str)) = false := by decide)
    (he : starEach (e :: es) X.env = (false, eval e X.env) :: starEach es X.env := by rfl) (hpl : (backTo pos (starEach es X.env)).any (·.1) = false := by rfl) : PE X (.Call (.Name x p) (e :: es) [] pos) (tCB r t) := by
  intro pins s σ H Q I h
  refine wpAny_Call_Name_kw (ld_blt I hg hm hv ?_ hn hdb)
  exact PyProof.Rows.callWith_builtin1 (thn (ha pos pins s σ H _ I h) fun us s1 ⟨vs, H1, I1, r1, q1⟩ => hc pins s1 σ H1 vs us Q I1 r1 q1) he hpl
end
end L2

namespace HT
open PySem PyProof.Rows

/-- t < u of tuples of ints -/
def lexLt : List Int → List Int → Bool
  | [], [] => false
  | [], _ :: _ => true
  | _ :: _, [] => false
  | x :: xs, y :: ys => if x = y then lexLt xs ys else decide (x < y)


section
open PySem.SeqAt
open PySem.AutoSeq1 (wpAny_loadPart')
open PySem.MeetsSeq PySem.MeetsSeq2 PySem.MeetsSeq3

end

section
variable {prog : Program} {w : World} {A : Around} {E : Value → Shared → Prop} {s : Shared}



/-! ### t[a:b], not the whole -/
/-- a slice's bound as a place among n (d where it is left out) -/
def sIx (n d : Nat) : Option Int → Nat
  | none => d
  | some v => if v < 0 then (v + (n : Int)).toNat else min v.toNat n
theorem sIx_none (n d : Nat) : sIx n d none = d := rfl
theorem sIx_nat (n d k : Nat) : sIx n d (some (k : Int)) = min k n := by
  show (if (k : Int) < 0 then ((k : Int) + (n : Int)).toNat else min (k : Int).toNat n) = min k n
  rw [if_neg (by omega), Int.toNat_natCast]

end
end HT

namespace L2
open PySem PySem.Spec PyProof.Rows

/-! ### the parts of a slice -/
abbrev TO := St → Hp → (Option Int → Hp → Prop) → Prop
/-- a slice's part (left out, or an int) -/
def PO (X : Cx) (e : Option Expr) (t : TO) : Prop :=
  ∀ (pins : List (Addr × Obj)) (s : Shared) (σ : St) (H : Hp) (Q : Option Int → Hp → Prop), Inv X pins σ H s → t σ H Q →
    wpAny (model X.prog X.w) X.A (evalPart e X.env) (fun u s' => ∃ o H', Inv X pins σ H' s' ∧ IsPart u o ∧ Q o H') X.xe s
def tNoPart : TO := fun _ H Q => Q none H
def tPart (t : TE) : TO := fun σ H Q => t σ H fun x H1 => ∃ i, x = .int i ∧ Q (some i) H1


section
variable {X : Cx} {e : Expr} {te : TE} {lo hi : Option Expr} {tl th : TO} {pos p2 : Pos}

theorem po_none : PO X none tNoPart := by
  intro pins s σ H Q I h
  rw [evalPart_none]
  exact wpAny_pure ⟨none, H, I, .none, h⟩
theorem po_some (h : PE X e te) : PO X (some e) (tPart te) := by
  intro pins s σ H Q I hw
  rw [evalPart_some]
  refine thn (h pins s σ H _ I hw) fun u s1 ⟨x, H1, I1, r1, q1⟩ => ?_
  obtain ⟨i, rfl, q⟩ := q1
  obtain ⟨t, rfl⟩ := r1
  exact ⟨some i, H1, I1, .int i t, q⟩

/-- what a slice of a value is, by values: the slice object stands at sl -/
def SlR (X : Cx) (r : V → Option Int → Option Int → Hp → VK → Prop) : Prop :=
  ∀ (pins : List (Addr × Obj)) (s : Shared) (σ : St) (H : Hp) (x : V) (v vl vu : Value) (lo hi : Option Int) (sl : Addr) (Q : VK), Inv X pins σ H s → RelV x v → s.heap.IsSliceOf sl vl vu .none → IsPart vl lo → IsPart vu hi → r x lo hi H Q →
    ∃ T id, typeLookup (.type T) "__getitem__" = pure (some (.builtin id)) ∧ s.TypeIs v T ∧ wpAny (model X.prog X.w) X.A (getItem v (.ref sl)) (EP X pins σ Q) X.xe s
def tSl (r : V → Option Int → Option Int → Hp → VK → Prop) (te : TE) (tl th : TO) : TE := fun σ H Q => te σ H fun x H1 => tl σ H1 fun l H2 => th σ H2 fun u H3 => r x l u H3 Q
/-- a[lo:hi], any a -/
theorem pe_slice {r : V → Option Int → Option Int → Hp → VK → Prop} (hr : SlR X r) (he : PE X e te) (hl : PO X lo tl) (hu : PO X hi th) : PE X (.Subscript e (.Slice lo hi none p2) pos) (tSl r te tl th) := by
  intro pins s σ H Q I h
  refine Subscript_ (thn (he pins s σ H _ I h) fun v s1 ⟨x, H1, I1, r1, q1⟩ => ?_)
  refine wpAny_Slice (thn (hl pins s1 σ H1 _ I1 q1) fun vl s2 ⟨l, H2, I2, pl, q2⟩ => thn (hu pins s2 σ H2 _ I2 q2) fun vu s3 ⟨u, H3, I3, pu, q3⟩ => ?_)
  rw [evalPart_none]
  refine wpAny_pure ?_
  have I4 : Inv X pins σ H3 { s3 with heap := s3.heap.push { cls := .type "slice", data := .fields #[vl, vu, .none] } } := I3.kept (t' := s3.toks) fun b ob q => Heap.get?_push_of_some _ q
  obtain ⟨T, id, hT, ht, hg⟩ := hr pins { s3 with heap := s3.heap.push { cls := .type "slice", data := .fields #[vl, vu, .none] } } σ H3 x v vl vu l u s3.heap.objs.size Q I4 r1 (Heap.IsSliceOf.new ..) pl pu q3
  show wpAny (model X.prog X.w) X.A (subscriptTail e (.Slice lo hi none p2) v (.ref s3.heap.objs.size)) (EP X pins σ Q) X.xe { s3 with heap := s3.heap.push { cls := .type "slice", data := .fields #[vl, vu, .none] } }
  exact tail_any (ops := [.ref s3.heap.objs.size, v]) ht hT hg (by with_unfolding_all rfl)

/-- the items of xs[lo:hi] -/
def cutV (xs : List V) (lo hi : Option Int) : List V := (xs.drop (HT.sIx xs.length 0 lo)).take (HT.sIx xs.length xs.length hi - HT.sIx xs.length 0 lo)
theorem cutV_length (xs : List V) (lo hi : Option Int) : (cutV xs lo hi).length ≤ xs.length := by
  unfold cutV
  rw [List.length_take, List.length_drop]
  omega
/-- t[lo:hi], not the whole of it (the whole would be t itself) -/
def rSlT (K : PySem.W.Frag) : V → Option Int → Option Int → Hp → VK → Prop := fun x lo hi H Q => ∃ a xs, x = .ref a ∧ SqT K H a xs ∧
  ¬ (HT.sIx xs.length 0 lo = 0 ∧ HT.sIx xs.length xs.length hi = xs.length) ∧ ∀ p, H p = none → Q (.ref p) (upd H p (.tup (cutV xs lo hi)))

/-! ### t < u, t + u -/
def rLtT (K : PySem.W.Frag) : R2 := fun x y H Q => ∃ a b ns ms, x = .ref a ∧ y = .ref b ∧ SqT K H a (ns.map V.int) ∧ SqT K H b (ms.map V.int) ∧ Q (.bl (HT.lexLt ns ms)) H
/-- t + u, t not empty: u empty gives t itself -/
def rCatT (K : PySem.W.Frag) : R2 := fun x y H Q => ∃ a b xs ys, x = .ref a ∧ y = .ref b ∧ SqT K H a xs ∧ SqT K H b ys ∧ xs ≠ [] ∧ xs.length + ys.length ≤ sizeLine ∧
  (ys = [] → Q (.ref a) H) ∧ (ys ≠ [] → ∀ p, H p = none → Q (.ref p) (upd H p (.tup (xs ++ ys))))
end
end L2

namespace L2
open PySem PySem.Spec PyProof.Rows

/-! ### places -/
/-- the place that an index of any sign means -/
def ixN (n : Nat) (i : Int) : Option Nat := if 0 ≤ i then (if i < n then some i.toNat else none) else if -(n : Int) ≤ i then some (i + n).toNat else none
def atI {α : Type} (xs : List α) (i : Int) : Option α := (ixN xs.length i).bind fun j => xs[j]?
theorem ixN_seq {n : Nat} {i : Int} {j : Nat} (h : ixN n i = some j) : seqIndex? i n = some j ∧ j < n ∧ -(n : Int) ≤ i ∧ i < n := by
  unfold ixN at h
  by_cases h0 : 0 ≤ i
  · rw [if_pos h0] at h
    by_cases h1 : i < n
    · rw [if_pos h1] at h
      have e : i.toNat = j := Option.some.inj h
      exact ⟨by rw [seqIndex_of h0 h1, e], by omega, by omega, h1⟩
    · rw [if_neg h1] at h; cases h
  · rw [if_neg h0] at h
    by_cases h1 : -(n : Int) ≤ i
    · rw [if_pos h1] at h
      have e : (i + n).toNat = j := Option.some.inj h
      exact ⟨by rw [seqIndex_neg (by omega) h1, e], by omega, h1, by omega⟩
    · rw [if_neg h1] at h; cases h
theorem atI_get {α : Type} {xs : List α} {i : Int} {v : α} (h : atI xs i = some v) : ∃ j, seqIndex? i xs.length = some j ∧ xs[j]? = some v ∧ j < xs.length ∧ -(xs.length : Int) ≤ i ∧ i < xs.length := by
  unfold atI at h
  cases e : ixN xs.length i with
  | none => rw [e] at h; cases h
  | some j =>
    rw [e] at h
    obtain ⟨h1, h2, h3, h4⟩ := ixN_seq e
    exact ⟨j, h1, h, h2, h3, h4⟩
theorem atI_nat {α : Type} {xs : List α} {j : Nat} {v : α} (h : xs[j]? = some v) : atI xs (j : Int) = some v := by
  have hj : j < xs.length := (List.getElem?_eq_some_iff.mp h).1
  have e : ixN xs.length (j : Int) = some j := by
    unfold ixN
    rw [if_pos (by omega), if_pos (by omega)]; simp
  unfold atI; rw [e]; exact h
theorem atI_last {α : Type} (xs : List α) (v : α) : atI (xs ++ [v]) (-1) = some v := by
  have hl : (xs ++ [v]).length = xs.length + 1 := by simp
  have e : ixN (xs ++ [v]).length (-1) = some xs.length := by
    unfold ixN
    rw [hl, if_neg (by decide), if_pos (by omega)]
    congr 1
    omega
  unfold atI
  rw [e]
  show (xs ++ [v])[xs.length]? = some v
  simp

/-! ### what may be subscripted -/
/-- what stands as an index of a plain subscript -/
def PlainIx (b : Expr) : Prop := ∀ o i, subscripted b false o i = operate [o, i] (getItem o i)
/-- a subscript by values -/
def IxR (X : Cx) (r : R2) : Prop :=
  ∀ (value slice : Expr) (pins : List (Addr × Obj)) (s : Shared) (σ : St) (H : Hp) (x y : V) (v u : Value) (Q : VK), Inv X pins σ H s → RelV x v → RelV y u → r x y H Q →
    subscripted slice false v u = operate [v, u] (getItem v u) → wpAny (model X.prog X.w) X.A (subscriptTail value slice v u) (EP X pins σ Q) X.xe s
/-- a call of a builtin's method by values: the receiver, the arguments -/
def MtR (X : Cx) (id : String) (r : V → List V → Hp → VK → Prop) : Prop :=
  ∀ (pins : List (Addr × Obj)) (s : Shared) (σ : St) (H : Hp) (x : V) (xs : List V) (v : Value) (us : List Value) (Q : VK), Inv X pins σ H s → RelV x v → Vals xs us → r x xs H Q →
    wpAny (model X.prog X.w) X.A (call (.builtin id) (v :: us)) (EP X pins σ Q) X.xe s
section
variable {X : Cx} {a b : Expr} {ta tb : TE} {pos : Pos}
/-- a[b] -/
theorem pe_ix {r : R2} (hr : IxR X r) (ha : PE X a ta) (hb : PE X b tb) (hs : PlainIx b) : PE X (.Subscript a b pos) (tOp r ta tb) := by
  intro pins s σ H Q I h
  exact Subscript_ (binT ha hb I h fun v u s2 x y H2 I2 rx ry q => hr a b pins s2 σ H2 x y v u Q I2 rx ry q (hs _ _))

def rIxL (K : PySem.W.Frag) : R2 := fun x y H Q => ∃ p xs i v, x = .ref p ∧ y = .int i ∧ SqL K H p xs ∧ atI xs i = some v ∧ Q v H
def rIxT (K : PySem.W.Frag) : R2 := fun x y H Q => ∃ p xs i v, x = .ref p ∧ y = .int i ∧ SqT K H p xs ∧ atI xs i = some v ∧ Q v H
def rIxS : R2 := fun x y H Q => ∃ z i c, x = .str z ∧ y = .int i ∧ z.length ≤ sizeLine ∧ atI z.cps.toList i = some c ∧ Q (.str ⟨#[c]⟩) H
theorem ix_list : IxR X (rIxL X.K) := by
  intro value slice pins s σ H x y v u Q I rx ry h hs
  obtain ⟨p, xs, i, z, rfl, rfl, hq, he, q⟩ := h
  cases rx
  obtain ⟨t, rfl⟩ := ry
  obtain ⟨its, r, pl, hz⟩ := I.list hq
  obtain ⟨j, h1, h2, h3, h4, h5⟩ := atI_get he
  obtain ⟨w, ew, rw'⟩ := r.get h2
  have hl := r.length
  have hn := line63
  have fin : EP X pins σ Q w s := ⟨z, H, I, rw', q⟩
  by_cases h0 : 0 ≤ i
  · have hj : i.toNat = j := by
      rw [seqIndex_of h0 h5] at h1
      exact Option.some.inj h1
    exact item_listR pl.isList h0 (by omega) (by rw [hj]; simpa using ew) fin hs
  · have hj : (i + (its.toArray.size : Int)).toNat = j := by
      rw [seqIndex_neg (by omega) h4] at h1
      rw [List.size_toArray, ← hl]
      exact Option.some.inj h1
    exact subscriptTail_builtinR (x := w) pl.isList.typeIs slot_list_getitem.lookup
      (wpAny_getItem_list_neg (Q := fun r s' => r = w ∧ EP X pins σ Q r s') pl.isList (by omega) (by rw [List.size_toArray] <;> omega) (by omega) (by rw [hj]; simpa using ew) ⟨rfl, fin⟩) hs
/-- list, tuple or str -/
def rIx (K : PySem.W.Frag) : R2 := fun x y H Q => rIxL K x y H Q ∨ rIxT K x y H Q ∨ rIxS x y H Q

/-! ### xs[i] = v, any sign -/
def rSetL : V → V → V → Hp → (Hp → Prop) → Prop := fun o i v H Q => ∃ p xs k j, o = .ref p ∧ i = .int k ∧ H p = some (.lst xs) ∧ ixN xs.length k = some j ∧ Q (upd H p (.lst (xs.set j v)))

/-! ### slices -/
theorem slice_bounds (lo hi : Option Int) (n : Nat) : (sliceBounds lo hi none n).1 = ((HT.sIx n 0 lo : Nat) : Int) ∧ (sliceBounds lo hi none n).2.1 = ((HT.sIx n n hi : Nat) : Int) ∧ (sliceBounds lo hi none n).2.2 = 1 := by
  refine ⟨?_, ?_, rfl⟩
  · cases lo with
    | none => simp [sliceBounds, HT.sIx]
    | some i =>
      simp only [sliceBounds, HT.sIx, Option.getD_none, show (1 : Int) > 0 by decide, if_true]
      by_cases h : i < 0
      · simp only [h, if_true] <;> omega
      · simp only [h, if_false] <;> omega
  · cases hi with
    | none => simp [sliceBounds, HT.sIx]
    | some i =>
      simp only [sliceBounds, HT.sIx, Option.getD_none, show (1 : Int) > 0 by decide, if_true]
      by_cases h : i < 0
      · simp only [h, if_true] <;> omega
      · simp only [h, if_false] <;> omega
theorem slicePick_cut (its : List Value) (lo hi : Option Int) : slicePick its.toArray lo hi none = ((its.drop (HT.sIx its.length 0 lo)).take (HT.sIx its.length its.length hi - HT.sIx its.length 0 lo)).toArray := by
  obtain ⟨h1, h2, h3⟩ := slice_bounds lo hi its.toArray.size
  unfold slicePick
  rw [h1, h2, h3]
  simp only [sliceRange_one, pick_run, List.size_toArray] <;> rfl
/-- xs[lo:hi] of a list: a new list -/
def rSlL (K : PySem.W.Frag) : V → Option Int → Option Int → Hp → VK → Prop := fun x lo hi H Q => ∃ a xs, x = .ref a ∧ SqL K H a xs ∧ ∀ p, H p = none → Q (.ref p) (upd H p (.lst (cutV xs lo hi)))
theorem sl_list : SlR X (rSlL X.K) := by
  intro pins s σ H x v vl vu lo hi sl Q I rx hs pl pu h
  obtain ⟨a, xs, rfl, hx, q⟩ := h
  cases rx
  obtain ⟨its, r, ht, hz⟩ := I.list hx
  have hlen := r.length
  refine ⟨"list", _, slot_list_getitem.lookup, ht.isList.typeIs, ?_⟩
  refine wpAny_getItem_list_slice ht.isList hs pl pu .none (by simp) ?_ (by rw [List.size_toArray] <;> omega)
  rw [slicePick_cut, ← hlen]
  refine ⟨.ref s.heap.objs.size, _, I.laid (t' := s.toks) (o := .lst (cutV xs lo hi)) (fun b ob q => Heap.get?_push_of_some _ q) (Nat.le_refl _) ?_, rfl, q _ (I.hok.fresh (Nat.le_refl _))⟩
  exact ⟨Nat.le_trans (cutV_length xs lo hi) hz, _, 0, (r.drop (HT.sIx xs.length 0 lo)).take (HT.sIx xs.length xs.length hi - HT.sIx xs.length 0 lo), Heap.get?_push_size _ rfl⟩

/-! ### in, not in: flat items -/
def flatV : V → Bool
  | .non => true
  | .bl _ => true
  | .int _ => true
  | .str _ => true
  | _ => false
/-- == of flat values -/
def eqV : V → V → Bool
  | .non, .non => true
  | .bl a, .bl b => a == b
  | .bl a, .int b => (if a then 1 else 0) == b
  | .int a, .bl b => a == (if b then 1 else 0)
  | .int a, .int b => a == b
  | .str a, .str b => a == b
  | _, _ => false
/-- the items' answers, read off the values (a value's own answer does not lean on its token) -/
def eqU (x : V) (u : Value) : Bool := match u with
  | .none => eqV .non x
  | .bool b => eqV (.bl b) x
  | .int i _ => eqV (.int i) x
  | .str z _ => eqV (.str z) x
  | _ => false
def inV (x : V) (xs : List V) : Bool := xs.any fun y => eqV y x
/-- x in a list or tuple of flat items -/
def rIn (K : PySem.W.Frag) (neg : Bool) : R2 := fun x y H Q => ∃ p xs, y = .ref p ∧ (SqL K H p xs ∨ SqT K H p xs) ∧ flatV x = true ∧ xs.all flatV = true ∧ Q (.bl (if neg then !inV x xs else inV x xs)) H

/-! ### len, list(x), tuple(x) of any list or tuple that is read -/
theorem call_len_seq : CallR X (.builtin "len") (fun xs H Q => ∃ p ys, xs = [.ref p] ∧ (SqL X.K H p ys ∨ SqT X.K H p ys) ∧ Q (.int ys.length) H) := by
  intro pins s σ H xs us Q I r h
  obtain ⟨p, ys, rfl, hq, q⟩ := h
  obtain ⟨u, rfl, rx⟩ := vals1 r
  cases rx
  have hn := line63
  rcases hq with hq | hq
  · obtain ⟨its, r', pl, hz⟩ := I.list hq
    have hlen := r'.length
    exact Calls.call_len_list pl.isList (by simp only [List.size_toArray] <;> omega) ⟨.int ys.length, H, I.tok _, ⟨s.toks + 1, by rw [List.size_toArray, hlen]⟩, q⟩
  · obtain ⟨its, r', pl, hz⟩ := I.tuple hq
    have hlen := r'.length
    exact len_tuple pl (by simp only [List.size_toArray] <;> omega) ⟨.int ys.length, H, I.tok _, ⟨s.toks + 1, by rw [List.size_toArray, hlen]⟩, q⟩

/-! ### the call of a builtin's method: o.m(..) -/
/-- the value is of that builtin type -/
def tyV (K : PySem.W.Frag) (T : String) (x : V) (H : Hp) : Prop := match x with
  | .str _ => T = "str"
  | .int _ => T = "int"
  | .ref p => (T = "list" ∧ ∃ xs, SqL K H p xs) ∨ (T = "tuple" ∧ ∃ o, K.lookup p = some o ∧ o.cls = .type "tuple" ∧ o.dict = none) ∨
      (T = "dict" ∧ ((∃ kvs, H p = some (.dK kvs)) ∨ ∃ kvs, H p = some (.dT kvs))) ∨ (T = "set" ∧ ∃ S n, H p = some (.set S n))
  | _ => False
theorem tyV_is {pins : List (Addr × Obj)} {σ : St} {H : Hp} {s : Shared} {T : String} {x : V} {v : Value} (I : Inv X pins σ H s) (r : RelV x v) (ty : tyV X.K T x H) :
    s.TypeIs v T ∧ ∀ a, v = .ref a → ∃ ob, s.heap.get? a = some ob ∧ ob.dict = none := by
  cases x with
  | str z =>
    obtain ⟨t, rfl⟩ := r
    cases (show T = "str" from ty)
    exact ⟨typeIs_str s z t, fun _ e => nomatch e⟩
  | int i =>
    obtain ⟨t, rfl⟩ := r
    cases (show T = "int" from ty)
    exact ⟨typeIs_int s i t, fun _ e => nomatch e⟩
  | ref p =>
    cases r
    rcases ty with ⟨rfl, xs, hq⟩ | ⟨rfl, o, hk, hc, hd⟩ | ⟨rfl, hk⟩ | ⟨rfl, S, n, hk⟩
    · obtain ⟨its, _, pl, _⟩ := I.list hq
      refine ⟨pl.isList.typeIs, fun a e => ?_⟩
      cases e
      obtain ⟨o, n, e, c, hd, _⟩ := pl
      exact ⟨o, e, hd⟩
    · refine ⟨⟨o, I.kIn p o hk, hc⟩, fun a e => ?_⟩
      cases e
      exact ⟨o, I.kIn _ o hk, hd⟩
    · have z : ∃ o, s.heap.get? p = some o ∧ o.ExactDict := by
        rcases hk with ⟨kvs, hk⟩ | ⟨kvs, hk⟩
        · obtain ⟨_, _, _, _, o, _, _, e, ex, _⟩ := I.hok p _ hk
          exact ⟨o, e, ex⟩
        · obtain ⟨_, _, _, _, o, _, _, e, ex, _⟩ := I.hok p _ hk
          exact ⟨o, e, ex⟩
      obtain ⟨o, e, ex⟩ := z
      refine ⟨⟨o, e, ex.1⟩, fun a e2 => ?_⟩
      cases e2
      exact ⟨o, e, ex.2.1⟩
    · obtain ⟨o, _, _, _, e, ex, _⟩ := I.hok p _ hk
      refine ⟨⟨o, e, ex.1⟩, fun a e2 => ?_⟩
      cases e2
      exact ⟨o, e, ex.2.1⟩
  | _ => exact False.elim ty
def tBM0 (K : PySem.W.Frag) (T : String) (r : V → List V → Hp → VK → Prop) (to : TE) : TE := fun σ H Q => to σ H fun x H1 => tyV K T x H1 ∧ r x [] H1 Q
def tBM (K : PySem.W.Frag) (T : String) (r : V → List V → Hp → VK → Prop) (to : TE) (t : TA) : TE := fun σ H Q => to σ H fun x H1 => tyV K T x H1 ∧ t σ H1 fun xs H2 => r x xs H2 Q
variable {o e : Expr} {es : List Expr} {to : TE} {t : TA} {name : Str} {apos cpos : Pos} {T id : String} {r : V → List V → Hp → VK → Prop}
theorem pe_bm (pa : PlainAttrs T) (slot : Slot T name id) (hty : typeOf (.builtin id) = pure (.type "method_descriptor")) (hm : MtR X id r) (ho : PE X o to) (ha : PA X (e :: es) t)
    (hbase : attributeBase o name X.env (eval o X.env) = eval o X.env := by rfl)
    (hfew : ((backTo cpos (starEach (e :: es) X.env)).all (fun x => !x.1) && (backToKw cpos (keywordEach [] X.env)).all (fun x => x.1.isSome)
      && decide ((e :: es).length + ([] : List Keyword).length + (if ([] : List Keyword).isEmpty then 0 else 1) < 30)) = true := by rfl)
    (hline : (apos.endLine == cpos.line) = true := by rfl) (hs : starEach (e :: es) X.env = (false, eval e X.env) :: starEach es X.env := by rfl) (hplain : (backTo cpos (starEach es X.env)).any (·.1) = false := by rfl) :
    PE X (.Call (.Attribute o name apos) (e :: es) [] cpos) (tBM X.K T r to t) := by
  intro pins s σ H Q I h
  refine wpAny_Call_method_late hbase hfew hline rfl (thn (ho pins s σ H _ I h) fun v s1 ⟨x, H1, I1, r1, ty, q1⟩ => ?_)
  obtain ⟨h1, h2⟩ := tyV_is I1 r1 ty
  refine ⟨T, id, pa, slot, hty, h1, h2, ?_⟩
  have hA := ha cpos pins s1 σ H1 _ I1 q1
  rw [hs] at hA ⊢
  refine Calls.callWith_builtin (by show (false || (backTo cpos (starEach es X.env)).any (·.1)) = false; rw [hplain] <;> rfl) (Calls.evalArgs_plain ?_)
  exact thn hA fun us s2 ⟨vs, H2, I2, r2, q2⟩ => hm pins s2 σ H2 x vs v us Q I2 r1 r2 q2
/- xs.append(e), list.index on a module's tuple .. are MtR facts of 06m -/
end
end L2

namespace L2
open PySem PySem.Spec PyProof.Rows

def MtM (X : Cx) (id : String) (r : V → List V → Hp → VK → Prop) : Prop :=
  ∀ (pins : List (Addr × Obj)) (s : Shared) (σ : St) (H : Hp) (x : V) (xs : List V) (v : Value) (us : List Value) (Q : VK), Inv X pins σ H s → RelV x v → Vals xs us → r x xs H Q →
    wpAny (model X.prog X.w) X.A (call (.builtin id) (v :: us)) (EP X pins σ Q) X.xe s

/-! ### lists of values -/
theorem Vals.one : ∀ {x : V} {us : List Value}, Vals [x] us → ∃ u, us = [u] ∧ RelV x u
  | _, _, .cons r .nil => ⟨_, rfl, r⟩

section
variable {X : Cx} {pins : List (Addr × Obj)} {σ : St} {H : Hp} {s : Shared} {l b : Addr} {xs ys zs : List V}

/-! ### the two steps: a tracked list is rewritten, a new list is laid -/
theorem Inv.lset {its its' : List Value} {n : Nat} {f : Array Value → Array Value} {t' : Nat} (I : Inv X pins σ H s) (hH : H l = some (.lst xs))
    (e : s.heap.get? l = some { cls := .type "list", data := .seq its.toArray n }) (hf : f its.toArray = its'.toArray) (hv : Vals ys its') (hz : ys.length ≤ sizeLine) :
    Inv X pins σ (upd H l (.lst ys)) { s with heap := s.heap.update l (Obj.mapSeq f), toks := t' } := by
  have q := PySem.IsL.update e f
  rw [hf] at q
  refine I.write (x := l) (e := l) (by rw [hH]; exact trivial) (.inl rfl) (fun b' u hb hu => (Heap.get?_update_other s.heap (Obj.mapSeq f) (Ne.symm hb)).trans hu) ⟨_, q⟩ ?_
  exact ⟨hz, its', _, hv, q⟩
theorem Inv.lnew {its : List Value} {t' : Nat} (I : Inv X pins σ H s) (hv : Vals ys its) (hz : ys.length ≤ sizeLine) :
    Inv X pins σ (upd H s.heap.objs.size (.lst ys)) { s with heap := s.heap.push { cls := .type "list", data := .seq its.toArray }, toks := t' } :=
  I.laid (fun _ _ q => Heap.get?_push_of_some _ q) (Nat.le_refl _) ⟨hz, its, 0, hv, Heap.get?_push_size _ rfl⟩
theorem Inv.fresh (I : Inv X pins σ H s) : H s.heap.objs.size = none := I.hok.fresh (Nat.le_refl _)
theorem Inv.lstM (I : Inv X pins σ H s) (hH : H l = some (.lst xs)) : xs.length ≤ sizeLine ∧ ∃ (its : List Value) (n : Nat), Vals xs its ∧ xs.length = its.length ∧ s.heap.get? l = some { cls := .type "list", data := .seq its.toArray n } := by
  obtain ⟨z, its, n, r, e⟩ := I.hok l _ hH
  exact ⟨z, its, n, r, r.length, e⟩

theorem notLongL {n : Nat} (h : n ≤ sizeLine) : Builtin.List.listTooLong n = false := by
  unfold Builtin.List.listTooLong
  exact decide_eq_false (by omega)
end

section
variable {X : Cx}

/-! ### methods -/
def rAppend : V → List V → Hp → VK → Prop := fun x vs H Q => ∃ l xs y, x = .ref l ∧ vs = [y] ∧ H l = some (.lst xs) ∧ xs.length < sizeLine ∧ Q .non (upd H l (.lst (xs ++ [y])))
theorem mt_append : MtM X "list.append" rAppend := by
  intro pins s σ H x vs v us Q I rx rv h
  obtain ⟨l, xs, y, rfl, rfl, hH, hz, q⟩ := h
  cases rx
  obtain ⟨u, rfl, ru⟩ := rv.one
  obtain ⟨z, its, n, r, hl, e⟩ := I.lstM hH
  refine call_meets F.slot_list_append ⟨_, e, rfl⟩ F.entry_list_append (F.args_list_append_2 _ _) (PySem.list_append l its.toArray n u (by rw [List.size_toArray]; omega)) ⟨e, ?_⟩
  refine ⟨.non, _, I.lset (its' := its ++ [u]) hH e (by simp) (r.append (.cons ru .nil)) ?_, rfl, q⟩
  rw [List.length_append, List.length_singleton]
  omega

def rExtend : V → List V → Hp → VK → Prop := fun x vs H Q => ∃ l b xs zs, x = .ref l ∧ vs = [.ref b] ∧ H l = some (.lst xs) ∧ H b = some (.lst zs) ∧ xs.length + zs.length ≤ sizeLine ∧ Q .non (upd H l (.lst (xs ++ zs)))
theorem mt_extend : MtM X "list.extend" rExtend := by
  intro pins s σ H x vs v us Q I rx rv h
  obtain ⟨l, b, xs, zs, rfl, rfl, hH, hB, hz, q⟩ := h
  cases rx
  obtain ⟨u, rfl, ru⟩ := rv.one
  cases ru
  obtain ⟨z, its, n, r, hl, e⟩ := I.lstM hH
  obtain ⟨z2, its2, n2, r2, hl2, e2⟩ := I.lstM hB
  have hsz : its.toArray.size + its2.toArray.size ≤ sizeLine := by rw [List.size_toArray, List.size_toArray]; omega
  have hlong : ¬ (!its.toArray.isEmpty && Builtin.List.listTooLong (its.toArray.size + its2.toArray.size)) = true := by
    rw [notLongL hsz, Bool.and_false]
    exact Bool.false_ne_true
  refine call_meets F.slot_list_extend ⟨_, e, rfl⟩ F.entry_list_extend (F.args_list_extend_2 _ _)
    (AutoSeq1.list_extend_list_list_0 l its.toArray n b its2.toArray n2 hlong (by rw [List.size_toArray]; omega) (by omega)) ⟨e, e2, ?_⟩
  refine ⟨.non, _, I.lset (its' := its ++ its2) hH e (by simp) (r.append r2) ?_, rfl, q⟩
  rw [List.length_append]
  omega

def rPop : V → List V → Hp → VK → Prop := fun x vs H Q => ∃ l xs y, x = .ref l ∧ vs = [] ∧ H l = some (.lst xs) ∧ xs[xs.length - 1]? = some y ∧ Q y (upd H l (.lst xs.dropLast))

def rPopAt : V → List V → Hp → VK → Prop := fun x vs H Q => ∃ l xs i k y, x = .ref l ∧ vs = [.int i] ∧ H l = some (.lst xs) ∧ -(2 ^ 63) ≤ i ∧ i < 2 ^ 63 ∧ seqIndex? i xs.length = some k ∧ xs[k]? = some y ∧ Q y (upd H l (.lst (xs.eraseIdx k)))

def rReverse : V → List V → Hp → VK → Prop := fun x vs H Q => ∃ l xs, x = .ref l ∧ vs = [] ∧ H l = some (.lst xs) ∧ Q .non (upd H l (.lst xs.reverse))

def rClear : V → List V → Hp → VK → Prop := fun x vs H Q => ∃ l xs, x = .ref l ∧ vs = [] ∧ H l = some (.lst xs) ∧ Q .non (upd H l (.lst []))

/-! ### list + list, list += list, list * int -/
def rCat : R2 := fun x y H Q => ∃ l b xs zs, x = .ref l ∧ y = .ref b ∧ H l = some (.lst xs) ∧ H b = some (.lst zs) ∧ xs.length + zs.length ≤ sizeLine ∧ ∀ p, H p = none → Q (.ref p) (upd H p (.lst (xs ++ zs)))
theorem op_cat : OpR X (binaryOp .Add) rCat := by
  intro pins s σ H x y v u Q I rx ry h
  obtain ⟨l, b, xs, zs, rfl, rfl, hH, hB, hz, q⟩ := h
  cases rx
  cases ry
  obtain ⟨z, its, n, r, hl, e⟩ := I.lstM hH
  obtain ⟨z2, its2, n2, r2, hl2, e2⟩ := I.lstM hB
  refine PySem.P.add_list e e2 ?_ (by rw [List.size_toArray, List.size_toArray]; omega)
  have ea : its.toArray ++ its2.toArray = (its ++ its2).toArray := by simp
  rw [ea]
  exact ⟨.ref _, _, I.lnew (t' := s.toks) (r.append r2) (by rw [List.length_append]; omega), rfl, q _ I.fresh⟩
/-- a list times an int (a negative one is nothing) -/
def rRep : R2 := fun x y H Q => ∃ l k xs, x = .ref l ∧ y = .int k ∧ H l = some (.lst xs) ∧ -(2 ^ 63) ≤ k ∧ k < 2 ^ 63 ∧ xs.length * k.toNat ≤ sizeLine ∧
  ∀ p, H p = none → Q (.ref p) (upd H p (.lst (List.replicate k.toNat xs).flatten))

/-! ### del xs[i] -/
end

/-! ### xs[a:b] = ys -/
section
variable {prog : Program} {w : World} {A : Around} {E : Value → Shared → Prop} {s : Shared}
theorem bounds_run {a c n : Nat} (hac : a ≤ c) (hc : c ≤ n) : sliceBounds (some (a : Int)) (some (c : Int)) none n = ((a : Int), (c : Int), 1) := by
  simp only [sliceBounds, Option.getD_none]
  have h1 : ¬ ((a : Int) < 0) := by omega
  have h2 : ¬ ((c : Int) < 0) := by omega
  simp only [h1, h2, if_false, show (1 : Int) > 0 by decide, if_true]
  congr 1
  · omega
  · congr 1; omega
end

section
variable {X : Cx}
end
end L2

namespace L2
open PySem PySem.Spec PyProof.Rows

theorem Vals.ints : ∀ {ns : List Int} {us : List Value}, Vals (ns.map V.int) us → IntsAre us ns
  | [], us, h => by
    rw [List.map_nil] at h
    cases h
    exact IntsAre.nil
  | n :: ns, us, h => by
    rw [List.map_cons] at h
    cases h with
    | cons r t =>
      obtain ⟨k, rfl⟩ := r
      exact IntsAre.cons n k (Vals.ints t)
theorem Vals.bls : ∀ {bs : List Bool} {us : List Value}, Vals (bs.map V.bl) us → us = bs.map Value.bool
  | [], us, h => by
    rw [List.map_nil] at h
    cases h
    rfl
  | b :: bs, us, h => by
    rw [List.map_cons] at h
    cases h with
    | cons r t =>
      cases r
      rw [Vals.bls t, List.map_cons]
theorem Vals.ref1 {a : Addr} {us : List Value} (r : Vals [V.ref a] us) : us = [Value.ref a] := by
  cases r with
  | cons r t =>
    cases t
    cases r
    rfl

/-! ### the library's walks over a list of ints, kept objects alone -/
section
variable {prog : Program} {w : World} {A : Around} {E : Value → Shared → Prop} {s : Shared} {l : Addr} {its : List Value} {ns : List Int} {Q : Value → Shared → Prop}
theorem sum_raw (hh : A.handled = none) (hl : s.heap.IsList l its.toArray) (hi : IntsAre its ns)
    (h : ∀ h' tk t', (∀ b o, s.heap.get? b = some o → h'.get? b = some o) → Q (.int ns.sum t') { s with heap := h', toks := tk }) : wpAny (model prog w) A (call (.builtin "sum") [.ref l]) Q E s := by
  obtain ⟨xs, e⟩ := hi.allInts.items
  have hn : numsOf (intItems xs).toList = ns := by rw [← e]; exact hi.numsOf
  rw [nums_intItems] at hn
  rw [e] at hl
  refine PySem.sum_intListG hh hl fun h' tk t' hk => ?_
  have := h h' tk t' hk
  rw [preSum_eq, List.take_of_length_le (by simp), hn]; exact this
end

/-! ### the calls, by values (CallR of 03t; MtR of 06l) -/
section
variable {X : Cx}
/-- sum(xs) of a list of ints -/
def rSum (K : PySem.W.Frag) : List V → Hp → VK → Prop := fun vs H Q => ∃ (a : Addr) (ns : List Int), vs = [V.ref a] ∧ SqL K H a (ns.map V.int) ∧ Q (.int ns.sum) H
/-- max(xs), min(xs) of a list of ints -/
def rMax (K : PySem.W.Frag) : List V → Hp → VK → Prop := fun vs H Q => ∃ (a : Addr) (ns : List Int), vs = [V.ref a] ∧ SqL K H a (ns.map V.int) ∧ 0 < ns.length ∧ ∀ m, m ∈ ns → (∀ y, y ∈ ns → y ≤ m) → Q (.int m) H
def rMin (K : PySem.W.Frag) : List V → Hp → VK → Prop := fun vs H Q => ∃ (a : Addr) (ns : List Int), vs = [V.ref a] ∧ SqL K H a (ns.map V.int) ∧ 0 < ns.length ∧ ∀ m, m ∈ ns → (∀ y, y ∈ ns → m ≤ y) → Q (.int m) H
theorem cr_sum (hc : X.calm = true) : CallR X (.builtin "sum") (rSum X.K) := by
  intro pins s σ H vs us Q I r h
  obtain ⟨a, ns, rfl, hs, q⟩ := h
  obtain ⟨its, rv, hl, _⟩ := I.list hs
  rw [Vals.ref1 r]
  exact sum_raw (I.ok.hd hc) hl.isList rv.ints fun h' tk t' hk => ⟨.int _, H, I.kept hk, ⟨_, rfl⟩, q⟩

/-! sorted, sort (fewer than 64 items: the library's own bound) -/
def rSorted (K : PySem.W.Frag) : List V → Hp → VK → Prop := fun vs H Q => ∃ (a : Addr) (ns : List Int), vs = [V.ref a] ∧ SqL K H a (ns.map V.int) ∧ ns.length < 64 ∧
  ∀ (ns' : List Int) (p : Addr), ns'.Perm ns → ns'.Pairwise (· ≤ ·) → H p = none → Q (.ref p) (upd H p (.lst (ns'.map V.int)))
def rSortedS (K : PySem.W.Frag) : List V → Hp → VK → Prop := fun vs H Q => ∃ (a : Addr) (xs : List Str), vs = [V.ref a] ∧ SqL K H a (xs.map V.str) ∧ xs.length < 64 ∧
  ∀ (ys : List Str) (p : Addr), ys.Perm xs → sortedS ys = true → H p = none → Q (.ref p) (upd H p (.lst (ys.map V.str)))
/-- xs.sort(), ints -/
def rSort : V → List V → Hp → VK → Prop := fun x xs H Q => ∃ (a : Addr) (ns : List Int), x = V.ref a ∧ xs = [] ∧ H a = some (.lst (ns.map V.int)) ∧ ns.length < 64 ∧
  ∀ ns' : List Int, ns'.Perm ns → ns'.Pairwise (· ≤ ·) → Q .non (upd H a (.lst (ns'.map V.int)))
end

/-! ### list.index, flat items -/
section
variable {X : Cx}
def rIndex (K : PySem.W.Frag) : V → List V → Hp → VK → Prop := fun x xs H Q => ∃ (a : Addr) (ys : List V) (y : V) (j : Nat) (z : V), x = V.ref a ∧ xs = [y] ∧ SqL K H a ys ∧ flatV y = true ∧ ys.all flatV = true ∧ ys[j]? = some z ∧ eqV z y = true ∧
  (∀ (m : Nat) (z' : V), m < j → ys[m]? = some z' → eqV z' y = false) ∧ Q (.int (j : Nat)) H
end

/-! ### type(x) of an own instance; is, is not of a module's class -/
section
variable {X : Cx}
end

/-! ### any(xs), all(xs) of a list of bools -/
theorem iter_any {prog : Program} {w : World} {A : Around} {E : Value → Shared → Prop} {s : Shared} {l : Addr} {items : Array Value} {Q : Value → Shared → Prop} (hl : s.heap.IsList l items)
    (h : ∀ s₂ : Shared, s₂ = { s with heap := s.heap.push { cls := .type "list_iterator", data := .fields #[.ref l, .int 0 0] } } →
      (s₂.heap.IsListIter s.heap.objs.size l 0 ∧ s₂.heap.IsList l items) → l ≠ s.heap.objs.size → Q (.ref s.heap.objs.size) s₂) : wpAny (model prog w) A (pyIter (.ref l)) Q E s := by
  have hlt : l < s.heap.objs.size := by obtain ⟨_, e, _⟩ := hl; exact Heap.lt_size e
  exact wpAny_pyIter_list hl (h _ rfl ⟨⟨_, Heap.get?_push_size _ rfl, rfl, rfl⟩, hl.push _⟩ (Nat.ne_of_lt hlt))
theorem truth_bools {prog : Program} {w : World} {A : Around} {bs : List Bool} {its : List Value} (e : its = bs.map Value.bool) :
    TruthOf prog w A (fun i v => its.toArray[i]? = some v) (fun i => bs.getD i false) := fun i v s Q E hv hq => by
  have hv' : its[i]? = some v := by simpa using hv
  rw [e, List.getElem?_map] at hv'
  obtain ⟨b, hb, rfl⟩ := Option.map_eq_some_iff.mp hv'
  have hg : bs.getD i false = b := by rw [List.getD_eq_getElem?_getD, hb] <;> rfl
  have hq' : Q (bs.getD i false) s := hq
  rw [hg] at hq'
  exact wpAny_truthy_bool hq'
theorem all_range : ∀ bs : List Bool, (List.range bs.length).all (fun i => bs.getD i false) = bs.all id
  | [] => rfl
  | b :: bs => by
    rw [List.length_cons, List.range_succ_eq_map, List.all_cons, List.all_map, List.all_cons, ← all_range bs]
    all_goals rfl
section
variable {X : Cx}
def rAny (K : PySem.W.Frag) : List V → Hp → VK → Prop := fun vs H Q => ∃ (a : Addr) (bs : List Bool), vs = [V.ref a] ∧ SqL K H a (bs.map V.bl) ∧ Q (.bl (bs.any id)) H
def rAll (K : PySem.W.Frag) : List V → Hp → VK → Prop := fun vs H Q => ∃ (a : Addr) (bs : List Bool), vs = [V.ref a] ∧ SqL K H a (bs.map V.bl) ∧ Q (.bl (bs.all id)) H
theorem cr_all (hc : X.calm = true) : CallR X (.builtin "all") (rAll X.K) := by
  intro pins s σ H vs us Q I r h
  obtain ⟨a, bs, rfl, hs, q⟩ := h
  obtain ⟨its, rv, hl, _⟩ := I.list hs
  rw [Vals.ref1 r]
  have hb := rv.bls
  refine call_all_walk (iter_any hl.isList fun s₂ e2 st hne => ?_)
  subst e2
  refine ⟨_, _, _, _, _, _, _, rfl, Walks.list (A := X.A.in1) (I.ok.hd hc) _ a hne its.toArray, st, truth_bools hb, fun h' tk hk => ?_⟩
  refine ⟨.bl _, H, I.kept fun b o eo => hk b o (fun hmem => ?_) (Heap.get?_push_of_some _ eo), ?_, q⟩
  · rcases List.mem_cons.mp hmem with e1 | hmem
    · exact absurd (e1 ▸ Heap.lt_size eo) (Nat.lt_irrefl _)
    · cases hmem
  · show Value.bool _ = Value.bool _
    rw [← all_range, hb, List.size_toArray, List.length_map]
end

/-! ### == and != of data at any depth: none, bools, ints, texts, lists, tuples -/
mutual
inductive Dp (K : PySem.W.Frag) (H : Hp) : V → PyData → Prop
  | non : Dp K H .non .none
  | bl (b : Bool) : Dp K H (.bl b) (.bool b)
  | int (i : Int) : Dp K H (.int i) (.int i)
  | str (x : Str) : Dp K H (.str x) (.str x)
  | lst {a : Addr} {xs : List V} {ds : List PyData} : SqL K H a xs → DpAll K H xs ds → Dp K H (.ref a) (.list ds)
  | tup {a : Addr} {xs : List V} {ds : List PyData} : SqT K H a xs → DpAll K H xs ds → Dp K H (.ref a) (.tuple ds)
inductive DpAll (K : PySem.W.Frag) (H : Hp) : List V → List PyData → Prop
  | nil : DpAll K H [] []
  | cons {v : V} {vs : List V} {d : PyData} {ds : List PyData} : Dp K H v d → DpAll K H vs ds → DpAll K H (v :: vs) (d :: ds)
end
section
variable {X : Cx} {pins : List (Addr × Obj)} {σ : St} {H : Hp} {s : Shared}
mutual
theorem Dp.reads (I : Inv X pins σ H s) : ∀ (d : PyData) (v : V) (u : Value), Dp X.K H v d → RelV v u → ∃ as, Reads s.heap u d as
  | .none, _, _, h, r => by
    cases h
    cases r
    exact ⟨_, Reads.none⟩
  | .bool b, _, _, h, r => by
    cases h
    cases r
    exact ⟨_, Reads.bool b⟩
  | .int i, _, _, h, r => by
    cases h
    obtain ⟨t, rfl⟩ := r
    exact ⟨_, Reads.int i t⟩
  | .str x, _, _, h, r => by
    cases h
    obtain ⟨t, rfl⟩ := r
    exact ⟨_, Reads.str x t⟩
  | .list ds, _, _, h, r => by
    cases h with
    | lst hs ha =>
      cases r
      obtain ⟨its, rv, ⟨o, n, ho, hc, _, hd⟩, _⟩ := I.list hs
      obtain ⟨as, hr⟩ := Dp.readsAll I ds _ its ha rv
      exact ⟨_, Reads.list ho hc hd hr⟩
  | .tuple ds, _, _, h, r => by
    cases h with
    | tup hs ha =>
      cases r
      obtain ⟨its, rv, ⟨o, ho, hc, n, hd⟩, _⟩ := I.tuple hs
      obtain ⟨as, hr⟩ := Dp.readsAll I ds _ its ha rv
      exact ⟨_, Reads.tuple ho hc hd hr⟩
  | .dict _, _, _, h, _ => by cases h
theorem Dp.readsAll (I : Inv X pins σ H s) : ∀ (ds : List PyData) (vs : List V) (us : List Value), DpAll X.K H vs ds → Vals vs us → ∃ as, ReadsAll s.heap us ds as
  | [], _, _, h, r => by
    cases h
    cases r
    exact ⟨_, ReadsAll.nil⟩
  | d :: ds, _, _, h, r => by
    cases h with
    | cons h1 h2 =>
      cases r with
      | cons r1 r2 =>
        obtain ⟨as, q1⟩ := Dp.reads I d _ _ h1 r1
        obtain ⟨bs, q2⟩ := Dp.readsAll I ds _ _ h2 r2
        exact ⟨_, ReadsAll.cons q1 q2⟩
end
end
section
variable {X : Cx}
def rEqD (K : PySem.W.Frag) : R2 := fun x y H Q => ∃ d e, Dp K H x d ∧ Dp K H y e ∧ SeqAt.shaped d = true ∧ SeqAt.shaped e = true ∧ Q (.bl (PyData.eqv d e)) H
def rNeD (K : PySem.W.Frag) : R2 := fun x y H Q => ∃ d e, Dp K H x d ∧ Dp K H y e ∧ SeqAt.shaped d = true ∧ SeqAt.shaped e = true ∧ Q (.bl (!PyData.eqv d e)) H
end
end L2

namespace L2
open PySem PySem.Spec PyProof.Rows
abbrev CellAt (h : Heap) (c : Addr) (v : Option Value) : Prop := h.IsCell c v
def relS (scope sc : Scope) : Scope :=
  { scope with names := scope.names.map fun (n, k) => if (k == .free && sc.kind == .function && sc.names.lookup n == some .cell) then (n, .cell) else (n, k) }

def cloFrom (cells : List (Str × Addr)) : List (Str × NameKind) → List (Str × Addr) → List (Str × Addr)
  | [], acc => acc
  | (n, k) :: r, acc => if k == .free then cloFrom cells r ((n, (cells.lookup n).getD 0) :: acc) else cloFrom cells r acc

theorem closure_loop (env : Env) (f : Str × NameKind → List (Str × Addr) → Sem (ForInStep (List (Str × Addr))))
    (hf : ∀ n k c, f (n, k) c = if k == .free then (do let a ← cellOf env n; pure (.yield ((n, a) :: c))) else pure (.yield c)) :
    ∀ (names : List (Str × NameKind)) (acc : List (Str × Addr)), (∀ y ∈ names, y.2 = .free → ∃ c, env.cells.lookup y.1 = some c) → forIn names acc f = pure (cloFrom env.cells names acc)
  | [], acc, _ => by rw [List.forIn_nil]; rfl
  | (n, k) :: r, acc, h => by
    rw [List.forIn_cons, hf]
    have ih := fun acc => closure_loop env f hf r acc fun y hy => h y (List.mem_cons_of_mem _ hy)
    unfold cloFrom
    by_cases hk : (k == NameKind.free) = true
    · rw [if_pos hk, if_pos hk]
      obtain ⟨c, hc⟩ := h (n, k) List.mem_cons_self (by simpa using hk)
      have e : cellOf env n = pure c := by unfold cellOf; rw [hc]
      rw [e]
      have e2 : (env.cells.lookup n).getD 0 = c := by rw [hc]; rfl
      rw [e2]
      exact ih _
    · rw [if_neg hk, if_neg hk]
      exact ih _
theorem closure_ok {scope : Scope} {env : Env} (h : ∀ y ∈ scope.names, y.2 = .free → ∃ c, env.cells.lookup y.1 = some c) : closureFor scope env = pure (cloFrom env.cells scope.names []) := by
  simp only [closureFor]
  rw [closure_loop env _ (fun n k c => rfl) scope.names [] h]
  rfl

theorem mem_lookup {α : Type} : ∀ {l : List (Str × α)} {n : Str} {c : α}, (n, c) ∈ l → ∃ c', l.lookup n = some c'
  | (k, v) :: r, n, c, h => by
    rw [List.lookup_cons]
    cases hb : n == k with
    | true => exact ⟨_, rfl⟩
    | false =>
      rcases List.mem_cons.mp h with e | h
      · cases e; simp at hb
      · exact mem_lookup h

theorem cloFrom_mem {cells : List (Str × Addr)} : ∀ {names : List (Str × NameKind)} {acc : List (Str × Addr)} {n : Str} {c : Addr}, (n, c) ∈ cloFrom cells names acc → (n, c) ∈ acc ∨ ((n, .free) ∈ names ∧ c = (cells.lookup n).getD 0)
  | [], _, _, _, h => .inl h
  | (m, k) :: r, acc, n, c, h => by
    unfold cloFrom at h
    split at h
    · rename_i hk
      have hk : k = .free := by simpa using hk
      rcases cloFrom_mem h with h | ⟨h1, h2⟩
      · rcases List.mem_cons.mp h with e | h
        · cases e; exact .inr ⟨hk ▸ List.mem_cons_self, rfl⟩
        · exact .inl h
      · exact .inr ⟨List.mem_cons_of_mem _ h1, h2⟩
    · rcases cloFrom_mem h with h | ⟨h1, h2⟩
      · exact .inl h
      · exact .inr ⟨List.mem_cons_of_mem _ h1, h2⟩
theorem cloFrom_acc {cells : List (Str × Addr)} : ∀ {names : List (Str × NameKind)} {acc : List (Str × Addr)} {p : Str × Addr}, p ∈ acc → p ∈ cloFrom cells names acc
  | [], _, _, h => h
  | (m, k) :: r, acc, p, h => by
    unfold cloFrom
    split
    · exact cloFrom_acc (List.mem_cons_of_mem _ h)
    · exact cloFrom_acc h
theorem cloFrom_has {cells : List (Str × Addr)} : ∀ {names : List (Str × NameKind)} {acc : List (Str × Addr)} {n : Str}, (n, .free) ∈ names → (n, (cells.lookup n).getD 0) ∈ cloFrom cells names acc
  | (m, k) :: r, acc, n, h => by
    unfold cloFrom
    rcases List.mem_cons.mp h with e | h
    · cases e
      exact cloFrom_acc List.mem_cons_self
    · split
      · exact cloFrom_has h
      · exact cloFrom_has h

theorem cells_mem : ∀ {names : List (Str × NameKind)} {h : Heap} {acc : List (Str × Addr)} {x : Str} {c : Addr}, (x, c) ∈ cellsFrom h.objs.size names acc →
    (x, c) ∈ acc ∨ ((x, .cell) ∈ names ∧ h.objs.size ≤ c ∧ CellAt (pushCells h names) c none)
  | [], _, _, _, _, h => .inl h
  | (n, k) :: r, h, acc, x, c, hm => by
    unfold cellsFrom at hm
    unfold pushCells
    split at hm
    · rename_i hk
      rw [if_pos hk]
      have hk : k = .cell := by simpa using hk
      rw [← Heap.size_push h { cls := .type "cell", data := .cell none }] at hm
      rcases cells_mem hm with hm | ⟨h1, h2, h3⟩
      · rcases List.mem_cons.mp hm with e | hm
        · cases e
          exact .inr ⟨hk ▸ List.mem_cons_self, Nat.le_refl _, _, pushCells_keeps r _ _ _ (Heap.get?_push_size _ rfl), rfl⟩
        · exact .inl hm
      · rw [Heap.size_push] at h2
        exact .inr ⟨List.mem_cons_of_mem _ h1, Nat.le_of_succ_le h2, h3⟩
    · rename_i hk
      rw [if_neg hk]
      rcases cells_mem hm with hm | ⟨h1, h2, h3⟩
      · exact .inl hm
      · exact .inr ⟨List.mem_cons_of_mem _ h1, h2, h3⟩
theorem cells_acc : ∀ {names : List (Str × NameKind)} {n : Nat} {acc : List (Str × Addr)} {p : Str × Addr}, p ∈ acc → p ∈ cellsFrom n names acc
  | [], _, _, _, h => h
  | (m, k) :: r, n, acc, p, h => by
    unfold cellsFrom
    split
    · exact cells_acc (List.mem_cons_of_mem _ h)
    · exact cells_acc h
theorem cells_has : ∀ {names : List (Str × NameKind)} {n : Nat} {acc : List (Str × Addr)} {x : Str}, (x, .cell) ∈ names → ∃ c, (x, c) ∈ cellsFrom n names acc
  | (m, k) :: r, n, acc, x, h => by
    unfold cellsFrom
    rcases List.mem_cons.mp h with e | h
    · cases e
      exact ⟨n, cells_acc List.mem_cons_self⟩
    · split
      · exact cells_has h
      · exact cells_has h
theorem cells_inj : ∀ {names : List (Str × NameKind)} {h : Heap} {acc : List (Str × Addr)} {x y : Str} {c : Addr}, (∀ p ∈ acc, p.2 < h.objs.size) → (∀ x y c, (x, c) ∈ acc → (y, c) ∈ acc → x = y) →
    (x, c) ∈ cellsFrom h.objs.size names acc → (y, c) ∈ cellsFrom h.objs.size names acc → x = y
  | [], _, _, _, _, _, _, hi, h1, h2 => hi _ _ _ h1 h2
  | (n, k) :: r, h, acc, x, y, c, hl, hi, h1, h2 => by
    unfold cellsFrom at h1 h2
    split at h1
    · rename_i hk
      rw [if_pos hk] at h2
      rw [← Heap.size_push h { cls := .type "cell", data := .cell none }] at h1 h2
      refine cells_inj (h := h.push _) (fun p hp => ?_) (fun x y c a b => ?_) h1 h2
      · rw [Heap.size_push]
        rcases List.mem_cons.mp hp with rfl | hp
        · exact Nat.lt_succ_self _
        · exact Nat.lt_succ_of_lt (hl p hp)
      · rcases List.mem_cons.mp a with e | a <;> rcases List.mem_cons.mp b with e' | b
        · cases e; cases e'; rfl
        · cases e; exact absurd (hl _ b) (Nat.lt_irrefl _)
        · cases e'; exact absurd (hl _ a) (Nat.lt_irrefl _)
        · exact hi _ _ _ a b
    · rename_i hk
      rw [if_neg hk] at h2
      exact cells_inj hl hi h1 h2

theorem newEnv_comp {M : Model} {A : Around} {E : Value → Shared → Prop} {s : Shared} {scope : Scope} {globals : Addr} {closure : List (Str × Addr)} {qual : Str} {func : Option Addr} {code : Value} {around : Env} {builtins : Addr} {Q : Env → Shared → Prop}
    (h : Q (newEnv scope s.heap.objs.size globals (cellsFrom (s.heap.objs.size + 1) scope.names closure) qual func code (some around) builtins)
      { s with heap := pushCells (s.heap.push { cls := .type "dict", data := .dict #[] }) scope.names }) :
    wpAny M A (newFunctionEnv scope globals closure [] qual func code (some around) builtins) Q E s := by
  simp only [newFunctionEnv, Option.isSome_some, if_true]
  refine wpAny_bind (wpAny_alloc ?_)
  refine wpAny_bind (wpAny_layCells _ (fun n k c => rfl) scope.names closure _ _ ?_)
  rw [show ({ s with heap := s.heap.push { cls := .type "dict", data := .dict #[] } } : Shared).heap.objs.size = s.heap.objs.size + 1 from Heap.size_push ..]
  rw [List.forIn_nil]
  exact wpAny_bind (wpAny_pure (wpAny_pure h))

/-- every name of the written scope, in the scope that runs -/
theorem lookup_relS {sc : Scope} : ∀ {names : List (Str × NameKind)} {x : Str} {k : NameKind},
    (names.map fun (n, k) => if (k == NameKind.free && sc.kind == .function && sc.names.lookup n == some .cell) then (n, NameKind.cell) else (n, k)).lookup x = some k →
    ∃ k', names.lookup x = some k' ∧ (k = k' ∨ (k' = .free ∧ k = .cell))
  | [], _, _, h => by simp at h
  | (n, k₀) :: r, x, k, h => by
    have ih := @lookup_relS sc r x k
    have h' : List.lookup x ((if (k₀ == NameKind.free && sc.kind == .function && sc.names.lookup n == some .cell) = true then (n, NameKind.cell) else (n, k₀)) :: (r.map _)) = some k := h
    cases hx : x == n with
    | true =>
      simp only [List.lookup_cons, hx]
      by_cases hc : (k₀ == NameKind.free && sc.kind == .function && sc.names.lookup n == some .cell) = true
      · rw [if_pos hc] at h'
        simp only [List.lookup_cons, hx] at h'
        cases h'
        simp only [Bool.and_eq_true, beq_iff_eq] at hc
        exact ⟨k₀, rfl, .inr ⟨hc.1.1, rfl⟩⟩
      · rw [if_neg hc] at h'
        simp only [List.lookup_cons, hx] at h'
        cases h'
        exact ⟨_, rfl, .inl rfl⟩
    | false =>
      simp only [List.lookup_cons, hx]
      by_cases hc : (k₀ == NameKind.free && sc.kind == .function && sc.names.lookup n == some .cell) = true
      · rw [if_pos hc] at h'
        simp only [List.lookup_cons, hx] at h'
        exact ih h'
      · rw [if_neg hc] at h'
        simp only [List.lookup_cons, hx] at h'
        exact ih h'



/-- the names of a comprehension's block: its own (with their places in N), or captured -/
structure BlkOk (N : List Str) (sc scope : Scope) (own : List (Str × Nat)) : Prop where
  kind : scope.kind = .function
  uniq : ∀ y ∈ scope.names, scope.names.lookup y.1 = some y.2
  ix : ∀ p ∈ own, N[p.2]? = some p.1
  free : ∀ y ∈ scope.names, y.2 = .free → sc.names.lookup y.1 = some .cell ∨ sc.names.lookup y.1 = some .free
  own : ∀ y ∈ scope.names, y.2 = .local ∨ y.2 = .cell → y.1 ∈ own.map (·.1) ∨ y.1 ∉ N
/-- the slots of the block's own names forgotten -/
def wipe (σ : St) : List Nat → St
  | [] => σ
  | v :: vs => (wipe σ vs).set v none
theorem wipe_length (σ : St) : ∀ vs : List Nat, (wipe σ vs).length = σ.length
  | [] => rfl
  | v :: vs => by unfold wipe; rw [List.length_set, wipe_length σ vs]
theorem wipe_some {σ : St} {i : Nat} {x : V} : ∀ {vs : List Nat}, (wipe σ vs)[i]? = some (some x) → σ[i]? = some (some x) ∧ i ∉ vs
  | [], h => ⟨h, by simp⟩
  | v :: vs, h => by
    unfold wipe at h
    by_cases hi : v = i
    · subst hi
      by_cases hv : v < (wipe σ vs).length
      · rw [List.getElem?_set_self hv] at h; cases h
      · rw [List.getElem?_eq_none (by simpa using hv)] at h; cases h
    · rw [List.getElem?_set_ne hi] at h
      obtain ⟨h1, h2⟩ := wipe_some h
      exact ⟨h1, by simp only [List.mem_cons, not_or]; exact ⟨fun e => hi e.symm, h2⟩⟩

/-- the context of a block that starts at s, its iterator's objects at fp -/
abbrev Cx.blk (X : Cx) (s : Shared) (H : Hp) (scope : Scope) (cenv : Env) (fp : List Addr) : Cx := { X with s_0 := s, H_0 := H, env := cenv, outer := X.stack, ex := fp, fn := fun x => scope.names.lookup x == some .cell, pn := [], xe := fun _ _ => False }
section
variable {X : Cx} {pins : List (Addr × Obj)} {σ : St} {H : Hp} {s : Shared}
theorem block_start {scope : Scope} {own : List (Str × Nat)} {fp : List Addr} (I : Inv X pins σ H s) (ok : BlkOk X.N X.env.scope scope own) (hN : X.N.Nodup) (hfp : ∀ b ∈ fp, FpOk X pins H b ∧ b < s.heap.objs.size) :
    Inv (X.blk s H scope (compEnvC scope (cellsFrom (s.heap.objs.size + 1) scope.names (cloFrom X.env.cells scope.names [])) s.heap.objs.size X.env) fp) [] (wipe σ (own.map (·.2))) H { s with heap := pushCells (s.heap.push { cls := .type "dict", data := .dict #[] }) scope.names } := by
  have hfree : ∀ y ∈ scope.names, y.2 = .free → ∃ c, X.env.cells.lookup y.1 = some c := fun y hy e => by
    rcases ok.free y hy e with k | k
    · exact I.ok.has _ (.inl k)
    · exact I.ok.has _ (.inr k)
  generalize hcenv : compEnvC scope (cellsFrom (s.heap.objs.size + 1) scope.names (cloFrom X.env.cells scope.names [])) s.heap.objs.size X.env = cenv
  have kp : ∀ b o, s.heap.get? b = some o → (pushCells (s.heap.push { cls := .type "dict", data := .dict #[] }) scope.names).get? b = some o := fun b o e => pushCells_keeps _ _ _ _ (Heap.get?_push_of_some _ e)
  have hL : cenv.locals = s.heap.objs.size := by rw [← hcenv]; rfl
  have hcl : cenv.cells = cellsFrom (s.heap.objs.size + 1) scope.names (cloFrom X.env.cells scope.names []) := by rw [← hcenv]; rfl
  have hsc : cenv.scope = relS scope X.env.scope := by rw [← hcenv]; rfl
  rw [← Heap.size_push s.heap { cls := .type "dict", data := .dict #[] }] at hcl
  have cm : ∀ {y c}, (y, c) ∈ cloFrom X.env.cells scope.names [] → X.env.cells.lookup y = some c ∧ c < s.heap.objs.size := fun {y c} hm => by
    rcases cloFrom_mem hm with hm | ⟨h1, rfl⟩
    · cases hm
    · obtain ⟨c, hc⟩ := hfree _ h1 rfl
      rw [hc]
      obtain ⟨w, z⟩ := I.cell _ _ hc
      exact ⟨rfl, z.lt⟩
  have mem : ∀ {y c}, cenv.cells.lookup y = some c → (X.env.cells.lookup y = some c ∧ c < s.heap.objs.size) ∨ (s.heap.objs.size + 1 ≤ c ∧ CellAt (pushCells (s.heap.push { cls := .type "dict", data := .dict #[] }) scope.names) c none) := fun {y c} e => by
    rw [hcl] at e
    rcases cells_mem (PySem.mem_of_lookup e) with hm | ⟨_, h2, h3⟩
    · exact .inl (cm hm)
    · rw [Heap.size_push] at h2; exact .inr ⟨h2, h3⟩
  have look : ∀ {y}, scope.names.lookup y = some .free → ∃ c, cenv.cells.lookup y = some c ∧ X.env.cells.lookup y = some c := fun {y} hl => by
    have hy : (y, NameKind.free) ∈ scope.names := PySem.mem_of_lookup hl
    obtain ⟨c', e'⟩ := mem_lookup (cells_acc (names := scope.names) (n := (s.heap.push { cls := .type "dict", data := .dict #[] }).objs.size) (cloFrom_has (cells := X.env.cells) (acc := []) hy))
    rw [← hcl] at e'
    refine ⟨c', e', ?_⟩
    rw [hcl] at e'
    rcases cells_mem (PySem.mem_of_lookup e') with hm | ⟨h1, _, _⟩
    · exact (cm hm).1
    · have := ok.uniq _ h1
      rw [hl] at this; cases this
  have okB : (X.blk s H scope cenv fp).Ok := by
    refine ⟨I.ok.mod, by show cenv.scope.kind = _; rw [hsc]; exact ok.kind, by show cenv.globals = _; rw [← hcenv]; exact I.ok.glob, by show cenv.builtins = _; rw [← hcenv]; exact I.ok.blt, by show s.heap.objs.size ≤ cenv.locals; rw [hL]; exact Nat.le_refl _,
      fun y z c e1 e2 => ?_, fun y hy => ?_, fun y c z e => ?_, I.ok.hd, I.ok.frames, .inl rfl, fun b hb => ⟨?_, fun y c e z => ?_⟩, I.bs, Nat.le_trans I.ok.bsz I.sz, fun b o e hb => ?_, fun b hb z => ?_, I.stack, I.stkFree⟩
    · have e1 : cenv.cells.lookup y = some c := e1
      have e2 : cenv.cells.lookup z = some c := e2
      rw [hcl] at e1 e2
      refine cells_inj (fun p hp => ?_) (fun y z c a b => I.ok.inj y z c (cm a).1 (cm b).1) (PySem.mem_of_lookup e1) (PySem.mem_of_lookup e2)
      rw [Heap.size_push]
      exact Nat.lt_succ_of_lt (cm (y := p.1) (c := p.2) hp).2
    · show ∃ c, cenv.cells.lookup y = some c
      have key : ∀ k, cenv.kindOf y = some k → (k = .cell ∨ k = .free) → ∃ c, cenv.cells.lookup y = some c := fun k hk hk' => by
        unfold Env.kindOf at hk
        rw [hsc] at hk
        obtain ⟨k', e, r⟩ := lookup_relS hk
        have : k' = .cell ∨ k' = .free := by
          rcases r with rfl | ⟨rfl, _⟩
          · exact hk'
          · exact .inr rfl
        rcases this with rfl | rfl
        · obtain ⟨c, hm⟩ := cells_has (n := (s.heap.push { cls := .type "dict", data := .dict #[] }).objs.size) (acc := cloFrom X.env.cells scope.names []) (PySem.mem_of_lookup e)
          obtain ⟨c', e'⟩ := mem_lookup hm
          exact ⟨c', by rw [hcl]; exact e'⟩
        · obtain ⟨c, h1, _⟩ := look e
          exact ⟨c, h1⟩
      rcases hy with hy | hy
      · exact key _ hy (.inl rfl)
      · exact key _ hy (.inr rfl)
    · have z : (scope.names.lookup y == some NameKind.cell) = true := z
      have z : scope.names.lookup y = some .cell := by simpa using z
      have e : cenv.cells.lookup y = some c := e
      rw [hcl] at e
      rcases cells_mem (PySem.mem_of_lookup e) with hm | ⟨_, h2, _⟩
      · rcases cloFrom_mem hm with hm | ⟨h1, _⟩
        · cases hm
        · have q := ok.uniq _ h1
          rw [z] at q; cases q
      · rw [Heap.size_push] at h2
        exact Nat.le_of_succ_le h2
    · show b ≠ cenv.locals
      rw [hL]; exact Nat.ne_of_lt (hfp b hb).2
    · have e : cenv.cells.lookup y = some c := e
      rcases mem e with ⟨h1, _⟩ | ⟨h1, _⟩
      · exact (hfp b hb).1.2.2.2.2.1 y c h1 z
      · have h2 : s.heap.objs.size + 1 ≤ b := by rw [← z]; exact h1
        exact absurd (Nat.lt_of_lt_of_le (hfp b hb).2 (Nat.le_of_succ_le h2)) (Nat.lt_irrefl _)
    · rcases (hfp b hb).1.2.2.2.1 with z | z
      · exact I.ok.noex b o e z
      · exact absurd (Nat.lt_of_lt_of_le (Heap.lt_size e) (Nat.le_trans I.ok.bsz z)) (Nat.lt_irrefl _)
    · rcases List.mem_cons.mp (I.stkSub b z) with z | z
      · exact (hfp b hb).1.2.1 z
      · exact (hfp b hb).1.2.2.1 z
  refine ⟨okB, rfl, I.bare, Un.kept kp, ⟨fun _ => none, ?_, fun i y av e1 e2 e3 => ?_⟩, fun y c e => ?_, ?_, fun y c e => ?_, fun p hp => ?_, I.hok.kept kp, by rw [wipe_length]; exact I.len⟩
  · show Heap.Ns _ cenv.locals _
    rw [hL]
    exact Heap.Ns.keeps (Heap.Ns.new ..) fun b o e => pushCells_keeps _ _ _ _ e
  · obtain ⟨e2, hne⟩ := wipe_some e2
    have hfr : scope.names.lookup y = some .free ∧ (cenv.kindOf y = some .cell ∨ cenv.kindOf y = some .free) := by
      have key : ∀ k, cenv.scope.names.lookup y = some k → k = .local ∨ k = .cell ∨ k = .free → scope.names.lookup y = some .free ∧ (cenv.kindOf y = some .cell ∨ cenv.kindOf y = some .free) := fun k hk hk' => by
        have hk0 := hk
        rw [hsc] at hk
        obtain ⟨k', e, r⟩ := lookup_relS hk
        have no : ¬ (k' = .local ∨ k' = .cell) := fun hh => by
          rcases ok.own _ (PySem.mem_of_lookup e) hh with e' | e'
          · obtain ⟨p, hp, hpy⟩ := List.mem_map.mp e'
            have e3 := ok.ix p hp
            have : p.1 = y := hpy
            rw [this] at e3
            exact hne (List.mem_map.mpr ⟨p, hp, nodup_ix hN e3 e1⟩)
          · exact e' (List.mem_of_getElem? e1)
        rcases r with rfl | ⟨rfl, rfl⟩
        · rcases hk' with rfl | rfl | rfl
          · exact absurd (.inl rfl) no
          · exact absurd (.inr rfl) no
          · exact ⟨e, .inr hk0⟩
        · exact ⟨e, .inl hk0⟩
      have e3 : Vis cenv.scope y := e3
      rcases e3 with e3 | e3 | e3
      · exact key _ e3 (.inl rfl)
      · exact key _ e3 (.inr (.inl rfl))
      · exact key _ e3 (.inr (.inr rfl))
    obtain ⟨m, hn, hl⟩ := I.loc
    have hvis : Vis X.env.scope y := (ok.free _ (PySem.mem_of_lookup hfr.1) rfl).elim (fun k => .inr (.inl k)) (fun k => .inr (.inr k))
    obtain ⟨w, r, q⟩ := hl i y av e1 e2 hvis
    refine ⟨w, r, .inr ⟨hfr.2, ?_⟩⟩
    obtain ⟨c, h1, h2⟩ := look hfr.1
    rcases q with ⟨k, _⟩ | ⟨_, c', e', z⟩
    · have k : X.env.scope.names.lookup y = some .local := k
      rcases ok.free _ (PySem.mem_of_lookup hfr.1) rfl with k' | k' <;> rw [show X.env.scope.names.lookup y = _ from k'] at k <;> cases k
    · rw [h2] at e'; cases e'
      exact ⟨c, h1, z.keeps kp⟩
  · have e : cenv.cells.lookup y = some c := e
    rcases mem e with ⟨h1, _⟩ | ⟨_, z⟩
    · obtain ⟨w, z⟩ := I.cell y c h1
      exact ⟨w, z.keeps kp⟩
    · exact ⟨_, z⟩
  · show H cenv.locals = none
    rw [hL]; exact I.hok.fresh (Nat.le_refl _)
  · have e : cenv.cells.lookup y = some c := e
    rcases mem e with ⟨h1, _⟩ | ⟨h1, _⟩
    · exact I.freeC y c h1
    · exact I.hok.fresh (Nat.le_of_succ_le h1)
  · exact absurd (show p ∈ ([] : List (Addr × Obj)) ++ [] from hp) (by simp)

/-- an item appended to a tracked list -/
theorem app_ok {E : Value → Shared → Prop} {D : Addr} {xs : List V} {y : V} {v : Value} {Q : Value → Shared → Prop} (I : Inv X pins σ H s) (hD : H D = some (.lst xs)) (hz : xs.length < sizeLine) (r : RelV y v)
    (h : ∀ s', Inv X pins σ (upd H D (.lst (xs ++ [y]))) s' → Q .none s') : wpAny (model X.prog X.w) X.A (call (.builtin "list.append") [.ref D, v]) Q E s := by
  obtain ⟨hz', its, n, ri, e⟩ := I.hok D _ hD
  have hl := ri.length
  refine append_at (hsz := by rw [List.size_toArray]; omega) e fun h' sb ho' => ?_
  refine h { s with heap := h' } (I.write (t' := s.toks) (by rw [hD]; trivial) (.inl rfl) (fun b u hb q => (sb.2 b hb).trans q) ⟨_, ho'⟩ ⟨by rw [List.length_append]; exact hz, its ++ [v], n + 1, ri.append (.cons r .nil), ?_⟩)
  rw [ho']
  simp

/-- a clause's tests -/
def PTs (X : Cx) (ifs : List Expr) (t : TT) : Prop :=
  ∀ (pins : List (Addr × Obj)) (s : Shared) (σ : St) (H : Hp) (Q : Bool → Hp → Prop), Inv X pins σ H s → t σ H Q →
    wpAny (model X.prog X.w) X.A (forIn ifs true fun c r => if r = true then do let ok ← isTrue c X.env (eval c X.env); pure (ForInStep.yield ok) else pure (ForInStep.yield r)) (TP X pins σ Q) X.xe s
def tYes : TT := fun _ H Q => Q true H
theorem pts_nil : PTs X [] tYes := fun _ _ _ H _ I h => wpAny_tests_nil ⟨H, I, h⟩
theorem pts_one {c : Expr} {t : TT} (h : PT X c t) : PTs X [c] t := fun pins s σ H Q I hw => wpAny_tests_one (h pins s σ H Q I hw)
end

theorem thnF {α : Type} {t : Sem α} {Q Q' : α → Shared → Prop} {M : Model} {A : Around} {E : Value → Shared → Prop} {s : Shared} (h : wpAny M A t Q (fun _ _ => False) s) (hQ : ∀ a s, Q a s → Q' a s) : wpAny M A t Q' E s := wpAny_mono h hQ fun _ _ z => False.elim z

/-- the loop of a list comprehension's block, the target of any form (codeAny_compLoop_tests asks a target that no tuple goes to; statement and proof follow it, PyProof/CompMap.lean:41-61, with the step letOwnedTupleGo kept) -/
theorem compLoop_any {prog : Program} {w : World} {A : Around} {R : Result → Shared → Prop} {s : Shared} {elt target iter : Expr} {ifs : List Expr} {scope : Scope} {pos : Pos} {it acc : Value} {env : Env} (I : Nat → Shared → Prop)
    (turn : ∀ n s, I n s → wpAny (model prog w) A (pyNext it) (fun r s₁ => match r with
      | none => R (.ok .next) s₁
      | some v => wpAny (model prog w) A (letOwnedTupleGo target it v) (fun _ s₁' => wpAny (model prog w) A (assign target env v) (fun _ s₂ =>
          wpAny (model prog w) A (forIn ifs true fun c r => if r = true then do let ok ← isTrue c env (eval c env); pure (ForInStep.yield ok) else pure (ForInStep.yield r)) (fun ok s₃ =>
            if ok = true then wpAny (model prog w) A (eval elt env) (fun x s₄ =>
              wpAny (model prog w) A (call (.builtin "list.append") [acc, x]) (fun _ s₅ => ∃ m, m < n ∧ I m s₅) (notedBy (model prog w) A env fun e s' => R (.error e) s') s₄) (notedBy (model prog w) A env fun e s' => R (.error e) s') s₃
            else ∃ m, m < n ∧ I m s₃) (notedBy (model prog w) A env fun e s' => R (.error e) s') s₂) (notedBy (model prog w) A env fun e s' => R (.error e) s') s₁') (notedBy (model prog w) A env fun e s' => R (.error e) s') s₁) (notedBy (model prog w) A env fun e s' => R (.error e) s') s)
    (n : Nat) (h : I n s) :
    codeAny (model prog w) A (.compLoop (.ListComp elt [⟨target, iter, ifs, 0⟩] scope pos) 0 it acc env) R s := by
  refine codeAny_loop rfl I (fun n s hI => ?_) n h
  show wpAny _ A ((compTurn (.ListComp elt [⟨target, iter, ifs, 0⟩] scope pos) 0 it acc env).onRaise (fun x => do noteFrame x env; theTreesLotGoes x)) _ _ s
  refine wpAny_noted ?_
  rw [compTurn_list]
  refine wpAny_bind (wpAny_standAt (wpAny_bind (wpAny_mono (turn n s hI) (fun r s₁ h₁ => ?_) fun _ _ h' => h')))
  cases r with
  | none => exact wpAny_pure h₁
  | some v =>
    refine wpAny_bind (wpAny_mono h₁ (fun _ s₁' h₁' => ?_) fun _ _ h' => h')
    refine wpAny_bind (wpAny_mono h₁' (fun _ s₂ h₂ => wpAny_bind (wpAny_mono h₂ (fun ok s₃ h₃ => ?_) fun _ _ h' => h')) fun _ _ h' => h')
    cases ok with
    | false => exact wpAny_pure ⟨rfl, h₃⟩
    | true =>
      exact wpAny_bind (wpAny_bind (wpAny_mono h₃ (fun x s₄ h₄ => wpAny_bind (wpAny_mono h₄ (fun _ s₅ h₅ => wpAny_pure (wpAny_pure ⟨rfl, h₅⟩)) fun _ _ h' => h')) fun _ _ h' => h'))

section
variable {X : Cx}
/-- [elt for target in iter if ..]: D the new list; W by the turn and a measure, Nx what a turn is to reach -/
def tLc (wi : TI) (g : TG) (tt : TT) (te : TE) (vs : List Nat) : TE := fun σ H Q => wi σ H fun J H1 => ∀ D, H1 D = none → ∃ W : Nat → Nat → Hp → Prop, (∃ m, W 0 m (upd H1 D (.lst []))) ∧ ∀ i m H, W i m H →
  (J.stop i H ∧ Q (.ref D) H) ∨ (J.go i H ∧ ∃ Nx : Hp → Prop, (∀ H', Nx H' → ∃ m', m' < m ∧ W (i + 1) m' H') ∧ ∀ x H', J.yld i H x H' → g x (wipe σ vs) H' fun σ2 H2 => wipe σ2 vs = wipe σ vs ∧ tt σ2 H2 fun b H3 =>
    if b = true then te σ2 H3 fun y H4 => ∃ acc, H4 D = some (.lst acc) ∧ acc.length < sizeLine ∧ Nx (upd H4 D (.lst (acc ++ [y]))) else Nx H3)
theorem lc_core {pins : List (Addr × Obj)} {s : Shared} {σ : St} {H : Hp} {Q : VK} {elt tg iter : Expr} {ifs : List Expr} {scope : Scope} {own : List (Str × Nat)} {pos pos' : Pos} {wi : TI} {g : TG} {tt : TT} {te : TE} {use : Option (Value → Sem Unit)} {Qf : Value → Shared → Prop}
    (hc : X.calm = true) (hN : X.N.Nodup) (I : Inv X pins σ H s) (hi : PI X tg iter wi) (ok : BlkOk X.N X.env.scope scope own)
    (hg : ∀ (s : Shared) (H : Hp) (C : Addr) (cl : List (Str × Addr)) (fp : List Addr), PG (X.blk s H scope (compEnvC scope cl C X.env) fp) tg g) (ht : ∀ (s : Shared) (H : Hp) (C : Addr) (cl : List (Str × Addr)) (fp : List Addr), PTs (X.blk s H scope (compEnvC scope cl C X.env) fp) ifs tt)
    (he : ∀ (s : Shared) (H : Hp) (C : Addr) (cl : List (Str × Addr)) (fp : List Addr), PE (X.blk s H scope (compEnvC scope cl C X.env) fp) elt te) (hs : ∀ x, foldedSetIterable iter X.env x = pure x)
    (h : tLc wi g tt te (own.map (·.2)) σ H Q)
    (hRR : ∀ D C s' m H', Inv X pins σ H' s' → Q (.ref D) H' → s'.heap.Ns C m → FpOk X pins H' C → compPost (model X.prog X.w) X.A X.xe use Qf (.ref D) C (.ok .next) s') :
    wpAny (model X.prog X.w) X.A (comprehension (.ListComp elt [⟨tg, iter, ifs, 0⟩] scope pos) scope X.env pos' (newList []) false (eval iter X.env) use) Qf X.xe s := by
  have hfree : ∀ y ∈ scope.names, y.2 = .free → ∃ c, X.env.cells.lookup y.1 = some c := fun y hy e => by
    rcases ok.free y hy e with k | k
    · exact I.ok.has _ (.inl k)
    · exact I.ok.has _ (.inr k)
  refine wpAny_comprehension_free (use := use) rfl hs (closure_ok hfree) ok.kind (fun y hy e => by rw [ok.uniq y hy, e])
    (thn (hi pins s σ H _ I h) fun xv s1 hx => thn hx fun itv s2 h2 => ?_)
  obtain ⟨it, fp, tn, J, H2, e, I2, T, st2, f2, q⟩ := h2
  subst e
  refine wpAny_newObj_type (newEnv_comp ?_) (by show 0 ≤ sizeLine; decide)
  generalize hD : s2.heap.objs.size = D
  have hDn : H2 D = none := I2.hok.fresh (Nat.le_of_eq hD)
  obtain ⟨W, ⟨m0, w0⟩, turn⟩ := q D hDn
  -- the new list
  generalize hs3 : ({ s2 with heap := s2.heap.push { cls := .type "list", data := .seq ([] : List Value).toArray } } : Shared) = s3
  have I3 : Inv X pins σ (upd H2 D (.lst [])) s3 := by
    rw [← hs3]
    refine I2.laid (t' := s2.toks) (fun b o e => Heap.get?_push_of_some _ e) (Nat.le_of_eq hD) ⟨Nat.zero_le _, [], 0, .nil, ?_⟩
    rw [← hD]
    exact Heap.get?_push_size _ rfl
  have h3 : s3.heap = s2.heap.push { cls := .type "list", data := .seq ([] : List Value).toArray } := by rw [← hs3]
  have sz : ∀ b ∈ fp, b < s2.heap.objs.size := fun b hb => by
    obtain ⟨o, e, _⟩ := T.obj _ _ st2 b hb
    exact Heap.lt_size e
  have f3 : ∀ b ∈ fp, FpOk X pins (upd H2 D (.lst [])) b ∧ b < s3.heap.objs.size := fun b hb => by
    have hlt := sz b hb
    refine ⟨⟨?_, (f2 b hb).2⟩, by rw [h3, Heap.size_push]; exact Nat.lt_succ_of_lt hlt⟩
    rw [upd_ne (by rw [← hD]; exact Nat.ne_of_lt hlt)]
    exact (f2 b hb).1
  have st3 : tn 0 s3.heap := T.keep _ _ _ st2 fun b _ o e => by rw [h3]; exact Heap.get?_push_of_some _ e
  have I4 := block_start I3 ok hN f3
  have pg := hg s3 (upd H2 D (.lst [])) s3.heap.objs.size (cellsFrom (s3.heap.objs.size + 1) scope.names (cloFrom X.env.cells scope.names [])) fp
  have pt := ht s3 (upd H2 D (.lst [])) s3.heap.objs.size (cellsFrom (s3.heap.objs.size + 1) scope.names (cloFrom X.env.cells scope.names [])) fp
  have pe := he s3 (upd H2 D (.lst [])) s3.heap.objs.size (cellsFrom (s3.heap.objs.size + 1) scope.names (cloFrom X.env.cells scope.names [])) fp
  show codeAny _ _ (.compStart (.ListComp elt [⟨tg, iter, ifs, 0⟩] scope pos) 0 (.ref it) (.ref D) (compEnvC scope (cellsFrom (s3.heap.objs.size + 1) scope.names (cloFrom X.env.cells scope.names [])) s3.heap.objs.size X.env)) (compPost (model X.prog X.w) X.A X.xe use Qf (.ref D) s3.heap.objs.size) { s3 with heap := pushCells (s3.heap.push { cls := .type "dict", data := .dict #[] }) scope.names }
  have nfp : ∀ b ∈ fp, (upd H2 D (.lst [])) b = none := fun b hb => (f3 b hb).1.1
  generalize hce : compEnvC scope (cellsFrom (s3.heap.objs.size + 1) scope.names (cloFrom X.env.cells scope.names [])) s3.heap.objs.size X.env = ce at I4 pg pt pe ⊢
  have cL : ce.locals = s3.heap.objs.size := by subst hce; rfl
  generalize hH3 : upd H2 D (.lst []) = H3 at I3 I4 pg pt pe w0 nfp f3
  generalize hs4 : ({ s3 with heap := pushCells (s3.heap.push { cls := .type "dict", data := .dict #[] }) scope.names } : Shared) = s4 at I4 ⊢
  have st4 : tn 0 s4.heap := T.keep _ _ _ st3 fun b _ o e => by rw [← hs4]; exact pushCells_keeps _ _ _ _ (Heap.get?_push_of_some _ e)
  have stat : ∀ {σ' : St} {H' : Hp} {s' : Shared}, Inv (X.blk s3 H3 scope ce fp) [] σ' H' s' → (∀ b ∈ fp, H' b = none) → ∀ b ∈ fp, FpOk (X.blk s3 H3 scope ce fp) [] H' b := fun {σ' H' s'} I' hn b hb =>
    ⟨hn b hb, (I'.ok.exf b hb).1, I'.ok.exfs b hb, .inl hb, fun x c e => (I'.ok.exf b hb).2 x c e, fun p hp => absurd (show p ∈ ([] : List (Addr × Obj)) ++ [] from hp) (by simp)⟩
  have loop : codeAny (model X.prog X.w) X.A (.compLoop (.ListComp elt [⟨tg, iter, ifs, 0⟩] scope pos) 0 (.ref it) (.ref D) ce) (compPost (model X.prog X.w) X.A X.xe use Qf (.ref D) s3.heap.objs.size) s4 := by
    refine compLoop_any (fun n s' => ∃ i H', Inv (X.blk s3 H3 scope ce fp) [] (wipe σ (own.map (·.2))) H' s' ∧ tn i s'.heap ∧ (∀ b ∈ fp, H' b = none) ∧ W i n H') ?_ m0 ⟨0, H3, I4, st4, nfp, w0⟩
    rintro n s5 ⟨i, H5, I5, st5, n5, w5⟩
    rcases turn i n H5 w5 with ⟨stop, qq⟩ | ⟨go, Nx, hNx, step⟩
    · have td := T.done (X.blk s3 H3 scope ce fp) rfl rfl rfl hc i [] s5 _ H5 (fun _ _ => False) I5 (stat I5 n5) st5 stop
      refine thnF td fun r s6 ⟨hr, I6⟩ => ?_
      subst hr
      -- back in the def's context
      have I7 : Inv X pins σ H5 s6 := I3.call' (ch := fp) I6.os I6.base I6.hok I6.bare fun b hb => ⟨(f3 b hb).1.2.2.2.1, (f3 b hb).1.2.1, (f3 b hb).1.2.2.2.2.1, (f3 b hb).1.2.2.2.2.2⟩
      have nC : H5 s3.heap.objs.size = none := by
        have z : H5 ce.locals = none := I6.free
        rw [cL] at z
        exact z
      obtain ⟨m, hn, _⟩ := I6.loc
      have hn : s6.heap.Ns ce.locals m := hn
      rw [cL] at hn
      exact hRR D s3.heap.objs.size s6 m H5 I7 qq hn (I3.fpOk (Nat.le_refl _) nC)
    · have ti := T.item (X.blk s3 H3 scope ce fp) rfl rfl rfl hc i [] s5 _ H5 (fun _ _ => False) I5 (stat I5 n5) st5 go
      refine thnF ti fun r s6 ⟨u, hr, h6⟩ => ?_
      subst hr
      refine thnF h6 fun _ s7 ⟨x, H7, I7, r7, y7, st7, n7⟩ => ?_
      have I7' := I7.pinned (stat I7 n7) (T.obj _ _ st7)
      refine thnF (pg _ s7 _ H7 x u _ I7' r7 (step x H7 y7)) fun _ s8 ⟨σ8, H8, I8, hw8, q8⟩ => ?_
      refine thnF (pt _ s8 σ8 H8 _ I8 q8) fun b s9 ⟨H9, I9, q9⟩ => ?_
      -- the turn's end
      have fin : ∀ {s' : Shared} {H' : Hp}, Inv (X.blk s3 H3 scope ce fp) ([] ++ pinsAt fp s7.heap) σ8 H' s' → Nx H' → ∃ m, m < n ∧ ∃ i H', Inv (X.blk s3 H3 scope ce fp) [] (wipe σ (own.map (·.2))) H' s' ∧ tn i s'.heap ∧ (∀ b ∈ fp, H' b = none) ∧ W i m H' := fun {s' H'} I' nx => by
        obtain ⟨m', hm, w'⟩ := hNx H' nx
        have pin' : ∀ b ∈ fp, ∀ o, s7.heap.get? b = some o → s'.heap.get? b = some o ∧ H' b = none := fun b hb o e =>
          let z := I'.pin (b, o) (List.mem_append_right _ (List.mem_append_right _ (mem_pinsAt hb e)))
          ⟨z.1, z.2.1⟩
        have hl : (wipe σ (own.map (·.2))).length = σ8.length := by rw [← hw8, wipe_length]
        refine ⟨m', hm, i + 1, H', (I'.unpinned (pins := [])).weak hl (fun j v e => ?_), T.keep _ _ _ st7 fun b hb o e => (pin' b hb o e).1, fun b hb => ?_, w'⟩
        · rw [← hw8] at e
          exact (wipe_some e).1
        · obtain ⟨o, e, _⟩ := T.obj _ _ st7 b hb
          exact (pin' b hb o e).2
      cases b with
      | false =>
        simp only [Bool.false_eq_true, if_false] at q9 ⊢
        exact fin I9 q9
      | true =>
        simp only [if_true] at q9 ⊢
        refine thnF (pe _ s9 σ8 H9 _ I9 q9) fun z s10 ⟨yv, H10, I10, r10, acc, hD10, hz10, nx⟩ => ?_
        exact app_ok (X := X.blk s3 H3 scope ce fp) I10 hD10 hz10 r10 fun s11 I11 => fin I11 nx
  exact codeAny_compStart_list loop (T.self X.A 0 _ _ _ st4 loop)
/-- as a value -/
theorem pe_lc {elt tg iter : Expr} {ifs : List Expr} {scope : Scope} {own : List (Str × Nat)} {pos : Pos} {wi : TI} {g : TG} {tt : TT} {te : TE} (hc : X.calm = true) (hN : X.N.Nodup) (hi : PI X tg iter wi) (ok : BlkOk X.N X.env.scope scope own)
    (hg : ∀ (s : Shared) (H : Hp) (C : Addr) (cl : List (Str × Addr)) (fp : List Addr), PG (X.blk s H scope (compEnvC scope cl C X.env) fp) tg g) (ht : ∀ (s : Shared) (H : Hp) (C : Addr) (cl : List (Str × Addr)) (fp : List Addr), PTs (X.blk s H scope (compEnvC scope cl C X.env) fp) ifs tt)
    (he : ∀ (s : Shared) (H : Hp) (C : Addr) (cl : List (Str × Addr)) (fp : List Addr), PE (X.blk s H scope (compEnvC scope cl C X.env) fp) elt te) (hs : ∀ x, foldedSetIterable iter X.env x = pure x := by intro _; rfl) :
    PE X (.ListComp elt [⟨tg, iter, ifs, 0⟩] scope pos) (tLc wi g tt te (own.map (·.2))) := by
  intro pins s σ H Q I h
  rw [eval_ListComp]
  refine lc_core hc hN I hi ok hg ht he hs h fun D C s' m H' I' q hn f => ⟨m, hn, fun h'' sb => ?_⟩
  obtain ⟨f0, f1, f2, f3, f4, f5⟩ := f
  exact ⟨.ref D, H', I'.turned (t' := s'.toks) (fun b o hb e => (sb.2 b hb).trans e) f0 f1 f3 f4 f5, rfl, q⟩
/-- name = [..] on one line, the name a local -/
theorem ps_setLc {i : Nat} {y : Str} {py : Pos} {elt tg iter : Expr} {ifs : List Expr} {scope : Scope} {own : List (Str × Nat)} {pos spos : Pos} {wi : TI} {g : TG} {tt : TT} {te : TE} (hc : X.calm = true) (hN : X.N.Nodup) (hy : X.N[i]? = some y) (hyl : X.env.scope.names.lookup y = some .local)
    (hsw : swapsWith (.ListComp elt [⟨tg, iter, ifs, 0⟩] scope pos) (some (.Name y py)) spos.line X.env = pure true) (hi : PI X tg iter wi) (ok : BlkOk X.N X.env.scope scope own)
    (hg : ∀ (s : Shared) (H : Hp) (C : Addr) (cl : List (Str × Addr)) (fp : List Addr), PG (X.blk s H scope (compEnvC scope cl C X.env) fp) tg g) (ht : ∀ (s : Shared) (H : Hp) (C : Addr) (cl : List (Str × Addr)) (fp : List Addr), PTs (X.blk s H scope (compEnvC scope cl C X.env) fp) ifs tt)
    (he : ∀ (s : Shared) (H : Hp) (C : Addr) (cl : List (Str × Addr)) (fp : List Addr), PE (X.blk s H scope (compEnvC scope cl C X.env) fp) elt te) (hs : ∀ x, foldedSetIterable iter X.env x = pure x := by intro _; rfl) :
    PS X (.Assign [.Name y py] (.ListComp elt [⟨tg, iter, ifs, 0⟩] scope pos) spos) (tAsg (tLc wi g tt te (own.map (·.2))) (gName i)) := by
  intro pins s σ H D I h
  rw [exec_Assign_Name_used _ _ _ _ hsw]
  refine wpAny_bind (wpAny_standAt (wpAny_bind ?_))
  show wpAny _ X.A (do let _ ← comprehension (.ListComp elt [⟨tg, iter, ifs, 0⟩] scope pos) scope X.env (firstIterPos [⟨tg, iter, ifs, 0⟩] pos) (newList []) false (eval iter X.env) (some (assign (.Name y py) X.env))) _ _ s
  have h : tLc wi g tt te (own.map (·.2)) σ H (fun x H1 => gName i x σ H1 D.nx) := h
  refine wpAny_bind (thn (lc_core (Qf := fun _ s' => SP X pins D .next s') hc hN I hi ok hg ht he hs h fun L C s' m H' I' q hn f => ?_) fun _ s' hq => wpAny_pure (wpAny_pure hq))
  show wpAny _ _ (assign (.Name y py) X.env (.ref L)) _ _ _
  refine wpAny_assign_Name (store_ok2 (v := V.ref L) I' hN hy (.inl hyl) rfl (fun s2 I2 ⟨a, sb, ha⟩ => ?_) (.inr hyl))
  obtain ⟨f0, f1, f2, f3, f4, f5⟩ := f
  have haC : C ≠ a := by
    rcases ha with z | z
    · rw [z]; exact f1
    · exact fun e => f4 y a z e.symm
  refine ⟨m, hn.sameBut sb haC, fun h3 sb3 => ?_⟩
  exact ⟨_, H', I2.turned (t' := s2.toks) (fun b o hb e => (sb3.2 b hb).trans e) f0 f1 f3 f4 f5, q⟩
theorem sw_true {elt : Expr} {gs : List Comprehension} {scope : Scope} {pos py : Pos} {y : Str} {l : Nat} {env : Env} (hk : env.scope.kind = .function) (hy : env.scope.names.lookup y = some .local) (hl : (py.line == pos.line) = true)
    (ha : (scope.names.any fun (n, k) => n == y && (k == .local || k == .cell)) = false) : swapsWith (.ListComp elt gs scope pos) (some (.Name y py)) l env = pure true := by
  have ky : env.kindOf y = some .local := hy
  have hb : env.blockKind = .function := by unfold Env.blockKind; rw [hk]; rfl
  unfold swapsWith
  simp only [hb, ky, ha, Expr.pos, hl]
  rfl
end

/-! ### the forms one uses -/
def blkC (N : List Str) (sc scope : Scope) (own : List (Str × Nat)) : Bool :=
  (match scope.kind with | .function => true | _ => false) && (scope.names.all fun y => decide (scope.names.lookup y.1 = some y.2)) && (own.all fun p => decide (N[p.2]? = some p.1)) &&
    (scope.names.all fun y => match y.2 with
      | .free => (match sc.names.lookup y.1 with | some .cell => true | some .free => true | _ => false)
      | .local => decide (y.1 ∈ own.map (·.1)) || decide (y.1 ∉ N)
      | .cell => decide (y.1 ∈ own.map (·.1)) || decide (y.1 ∉ N)
      | _ => true)
theorem blkOk_by {N : List Str} {sc scope : Scope} {own : List (Str × Nat)} (h : blkC N sc scope own = true) : BlkOk N sc scope own := by
  unfold blkC at h
  simp only [Bool.and_eq_true, List.all_eq_true, decide_eq_true_eq] at h
  obtain ⟨⟨⟨h1, h2⟩, h3⟩, h4⟩ := h
  refine ⟨?_, h2, h3, fun y hy e => ?_, fun y hy e => ?_⟩
  · split at h1
    · assumption
    · cases h1
  · have q := h4 y hy
    simp only [e] at q
    split at q <;> first | exact .inl (by assumption) | exact .inr (by assumption) | cases q
  · have q := h4 y hy
    rcases e with e | e <;> (simp only [e, Bool.or_eq_true, decide_eq_true_eq] at q; exact q)
end L2

namespace L2
open PySem PySem.Spec PyProof.Rows


section
variable {prog : Program} {w : World} {A : Around} {R : Result → Shared → Prop} {s : Shared} {elt t0 i0 t1 i1 : Expr} {ifs0 ifs1 : List Expr} {scope : Scope} {pos : Pos} {it acc : Value} {env : Env}
end

section
variable {X : Cx}
/-- [elt for tg in iter if .. for tg1 in iter1 if ..]: behind the first clause's store and tests the second source's own loop, from which Nx is reached. vs: the block's names; vs1: those of the second target -/
def tLc2 (wi : TI) (g : TG) (tt : TT) (wi1 : TI) (g1 : TG) (tt1 : TT) (te : TE) (vs vs1 : List Nat) : TE := fun σ H Q => wi σ H fun J H1 => ∀ D, H1 D = none → ∃ W : Nat → Nat → Hp → Prop, (∃ m, W 0 m (upd H1 D (.lst []))) ∧ ∀ i m H, W i m H →
  (J.stop i H ∧ Q (.ref D) H) ∨ (J.go i H ∧ ∃ Nx : Hp → Prop, (∀ H', Nx H' → ∃ m', m' < m ∧ W (i + 1) m' H') ∧ ∀ x H', J.yld i H x H' → g x (wipe σ vs) H' fun σ2 H2 => wipe σ2 vs = wipe σ vs ∧ tt σ2 H2 fun b H3 =>
    if b = true then wi1 σ2 H3 fun J1 H4 => ∃ W1 : Nat → Nat → Hp → Prop, (∃ m, W1 0 m H4) ∧ ∀ j k H, W1 j k H →
      (J1.stop j H ∧ Nx H) ∨ (J1.go j H ∧ ∃ Nx1 : Hp → Prop, (∀ H', Nx1 H' → ∃ k', k' < k ∧ W1 (j + 1) k' H') ∧ ∀ x H', J1.yld j H x H' → g1 x (wipe σ2 vs1) H' fun σ3 H5 => wipe σ3 vs1 = wipe σ2 vs1 ∧ tt1 σ3 H5 fun b H6 =>
        if b = true then te σ3 H6 fun y H7 => ∃ acc, H7 D = some (.lst acc) ∧ acc.length < sizeLine ∧ Nx1 (upd H7 D (.lst (acc ++ [y]))) else Nx1 H6)
    else Nx H3)
end
end L2

namespace L2
open PySem PySem.Spec PyProof.Rows

/-! ### lists of pairs as tables -/
section
variable {κ : Type} [DecidableEq κ]
def valV (kvs : List (κ × V)) (k : κ) : Option V := (kvs.find? fun kv => decide (kv.1 = k)).map (·.2)
/-- in its place, or at the end -/
def putK (kvs : List (κ × V)) (k : κ) (v : V) : List (κ × V) :=
  if (kvs.any fun kv => decide (kv.1 = k)) = true then kvs.map (fun kv => if kv.1 = k then (kv.1, v) else kv) else kvs ++ [(k, v)]
def dropK (kvs : List (κ × V)) (k : κ) : List (κ × V) := kvs.filter fun kv => decide (kv.1 ≠ k)



end


/-! ### a tracked dict, its keys ints and texts or tuples of these -/

/-- raw entries of a dict with tuple keys -/
abbrev KT (H : Hp) : List (List Key × V) → List (List Key × Addr × Value) → Prop := Paired fun p q => p.1 = q.1 ∧ H q.2.1 = some (.tup (p.1.map kV)) ∧ RelV p.2 q.2.2

section
variable {P : Program} {w : World} {H : Hp} {h : Heap} {a : Addr}
end

/-- what the dict at a holds at the key y -/
def DGet (H : Hp) (a : Addr) (y : V) (r : Option V) : Prop :=
  (∃ kvs k, Rd H a (.dK kvs) ∧ y = kV k ∧ r = valV kvs k) ∨ ∃ kvs k b, Rd H a (.dT kvs) ∧ y = .ref b ∧ H b = some (.tup (k.map kV)) ∧ r = valV kvs k
/-- the heap behind a[y] = v -/
def DPut (H : Hp) (a : Addr) (y v : V) (H' : Hp) : Prop :=
  (∃ kvs k, H a = some (.dK kvs) ∧ y = kV k ∧ kvs.length < sizeLine ∧ H' = upd H a (.dK (putK kvs k v))) ∨
  ∃ kvs k b, H a = some (.dT kvs) ∧ y = .ref b ∧ H b = some (.tup (k.map kV)) ∧ kvs.length < sizeLine ∧ H' = upd H a (.dT (putK kvs k v))


section
variable {X : Cx} {pins : List (Addr × Obj)} {σ : St} {H : Hp} {s : Shared} {a : Addr} {y v : V} {u r : Value} {o : Option V} {A : Around} {E : Value → Shared → Prop}


end

section
variable {X : Cx} {pins : List (Addr × Obj)} {σ : St} {H : Hp} {s : Shared} {a : Addr} {kvs : List (Key × V)} {k : Key} {u : Value} {A : Around} {E : Value → Shared → Prop}
end


/-! ### readings and rules -/
/-- the element of a subscription, not a slice -/
def NoSl (i : Expr) : Prop := ∀ ov iv, subscripted i false ov iv = operate [ov, iv] (getItem ov iv)


/-- d[y] -/
def tDGet (td ty : TE) : TE := fun σ H Q => td σ H fun x H1 => ty σ H1 fun y H2 => ∃ a v, x = .ref a ∧ DGet H2 a y (some v) ∧ Q v H2
/-- y in d, y not in d -/
def tDIn (ty td : TE) : TE := fun σ H Q => ty σ H fun y H1 => td σ H1 fun x H2 => ∃ a o, x = .ref a ∧ DGet H2 a y o ∧ Q (.bl o.isSome) H2
def tDNotIn (ty td : TE) : TE := fun σ H Q => ty σ H fun y H1 => td σ H1 fun x H2 => ∃ a o, x = .ref a ∧ DGet H2 a y o ∧ Q (.bl (!o.isSome)) H2
/-- d[y] = v -/
def sDPut (td ty tv : TE) : TS := fun D σ H => tv σ H fun v H1 => td σ H1 fun x H2 => ty σ H2 fun y H3 => ∃ a H4, x = .ref a ∧ DPut H3 a y v H4 ∧ D.nx σ H4
/-- d[y] op= v -/
def sDAug (td ty tv : TE) (rd : V → V → Hp → VK → Prop) : TS := fun D σ H => td σ H fun x H1 => ty σ H1 fun y H2 => ∃ a v, x = .ref a ∧ DGet H2 a y (some v) ∧
  tv σ H2 fun y2 H3 => rd v y2 H3 fun z H4 => ∃ H5, DPut H4 a y z H5 ∧ D.nx σ H5
/-- del d[y] -/
def sDDel (td ty : TE) : TS := fun D σ H => td σ H fun x H1 => ty σ H1 fun y H2 => ∃ a kvs k, x = .ref a ∧ H2 a = some (.dK kvs) ∧ y = kV k ∧ (valV kvs k).isSome = true ∧ D.nx σ (upd H2 a (.dK (dropK kvs k)))

section
variable {X : Cx} {o i e value : Expr} {pos pos' tpos : Pos} {td ty tv : TE}
end


/-! ### displays -/
/-- {}, to be a dict of the kind that is wanted -/
def tDNewK : TE := fun _ H Q => ∀ p, H p = none → Q (.ref p) (upd H p (.dK []))
def tDNewT : TE := fun _ H Q => ∀ p, H p = none → Q (.ref p) (upd H p (.dT []))
section
variable {X : Cx} {pos : Pos}
end

/-- the pairs of a display, from the left -/
def tPairs : List (TE × TE) → St → Hp → (List (V × V) → Hp → Prop) → Prop
  | [], _, H, Q => Q [] H
  | (tk, tv) :: r, σ, H, Q => tk σ H fun x H1 => tv σ H1 fun y H2 => tPairs r σ H2 fun ps H3 => Q ((x, y) :: ps) H3
abbrev VV : List (V × V) → List (Value × Value) → Prop := Paired fun p q => RelV p.1 q.1 ∧ RelV p.2 q.2
def PPs (X : Cx) (pos : Pos) (keys : List (Option Expr)) (values : List Expr) (trs : List (TE × TE)) : Prop :=
  ∀ (pins : List (Addr × Obj)) (s : Shared) (σ : St) (H : Hp) (Q : List (V × V) → Hp → Prop), Inv X pins σ H s → tPairs trs σ H Q →
    wpAny (model X.prog X.w) X.A (evalPairs (pairTrees keys values X.env pos)) (fun vs s' => ∃ ps H', Inv X pins σ H' s' ∧ VV ps vs ∧ Q ps H') X.xe s

def mergeK (kvs more : List (Key × V)) : List (Key × V) := more.foldl (fun acc kv => putK acc kv.1 kv.2) kvs
/-- {k: v, ..} with keys ints and texts; the new dict stands empty while the pairs are made -/
def tDisp (trs : List (TE × TE)) : TE := fun σ H Q => ∀ p, H p = none → tPairs trs σ (upd H p (.dK [])) fun ps H2 => H2 p = some (.dK []) ∧ ∃ kvs : List (Key × V), ps = kvs.map (fun kv => (kV kv.1, kv.2)) ∧ kvs.length ≤ 15 ∧ Q (.ref p) (upd H2 p (.dK (mergeK [] kvs)))


/-! ### methods -/
/-- a method call o.m(e) of a built-in, with one argument: what must be seen of the text -/
structure M1 (X : Cx) (o : Expr) (m : Str) (apos : Pos) (e : Expr) (cpos : Pos) : Prop where
  base : attributeBase o m X.env (eval o X.env) = eval o X.env
  few : ((backTo cpos (starEach [e] X.env)).all (fun x => !x.1) && (backToKw cpos (keywordEach [] X.env)).all (fun x => x.1.isSome)
    && decide (([e] : List Expr).length + ([] : List Keyword).length + (if ([] : List Keyword).isEmpty then 0 else 1) < 30)) = true
  line : (apos.endLine == cpos.line) = true
  trees : backTo cpos (starEach [e] X.env) = [(false, eval e X.env)]
structure M2 (X : Cx) (o : Expr) (m : Str) (apos : Pos) (e f : Expr) (cpos : Pos) : Prop where
  base : attributeBase o m X.env (eval o X.env) = eval o X.env
  few : ((backTo cpos (starEach [e, f] X.env)).all (fun x => !x.1) && (backToKw cpos (keywordEach [] X.env)).all (fun x => x.1.isSome)
    && decide (([e, f] : List Expr).length + ([] : List Keyword).length + (if ([] : List Keyword).isEmpty then 0 else 1) < 30)) = true
  line : (apos.endLine == cpos.line) = true
  trees : backTo cpos (starEach [e, f] X.env) = [(false, eval e X.env), (false, eval f X.env)]

/-- a is a dict, whatever its keys -/
def IsD (H : Hp) (a : Addr) : Prop := (∃ kvs, Rd H a (.dK kvs)) ∨ ∃ kvs, Rd H a (.dT kvs)

section
variable {X : Cx} {pins : List (Addr × Obj)} {σ : St} {H : Hp} {s : Shared} {a : Addr} {y d : V} {u r : Value} {o : Option V} {A : Around} {E : Value → Shared → Prop}
end

def tDGet1 (td ty : TE) : TE := fun σ H Q => td σ H fun x H1 => ∃ a, x = .ref a ∧ IsD H1 a ∧ ty σ H1 fun y H2 => ∃ o, DGet H2 a y o ∧ Q (o.getD .non) H2
def tDGet2 (td ty tx : TE) : TE := fun σ H Q => td σ H fun x H1 => ∃ a, x = .ref a ∧ IsD H1 a ∧ ty σ H1 fun y H2 => tx σ H2 fun z H3 => ∃ o, DGet H3 a y o ∧ Q (o.getD z) H3
/-- d.pop(k): there; d.pop(k, x): there or not -/
def tDPop1 (td ty : TE) : TE := fun σ H Q => td σ H fun x H1 => ∃ a, x = .ref a ∧ IsD H1 a ∧ ty σ H1 fun y H2 => ∃ kvs k v, H2 a = some (.dK kvs) ∧ y = kV k ∧ valV kvs k = some v ∧ Q v (upd H2 a (.dK (dropK kvs k)))
def tDPop2 (td ty tx : TE) : TE := fun σ H Q => td σ H fun x H1 => ∃ a, x = .ref a ∧ IsD H1 a ∧ ty σ H1 fun y H2 => tx σ H2 fun z H3 => ∃ kvs k, H3 a = some (.dK kvs) ∧ y = kV k ∧
  (∀ v, valV kvs k = some v → Q v (upd H3 a (.dK (dropK kvs k)))) ∧ (valV kvs k = none → Q z H3)
section
variable {X : Cx} {o e f : Expr} {apos cpos : Pos} {td ty tx : TE}
end

/-! ### dict(d): a copy -/
section
variable {X : Cx} {pins : List (Addr × Obj)} {σ : St} {H : Hp} {s : Shared} {a : Addr} {kvs : List (Key × V)} {A : Around} {E : Value → Shared → Prop}
end


section
variable {X : Cx} {pins : List (Addr × Obj)} {σ : St} {H : Hp} {s : Shared} {a : Addr} {y : V} {u : Value} {A : Around} {E : Value → Shared → Prop}
end
end L2

namespace L2
open PySem PySem.Spec PyProof.Rows


section
variable {prog : Program} {w : World} {A : Around} {E : Value → Shared → Prop}


end

section
variable {X : Cx}
end
end L2

namespace L2
open PySem PySem.Spec PyProof.Rows


section
variable {X : Cx} {pins : List (Addr × Obj)} {σ : St} {H : Hp} {s : Shared} {h' : Heap}

/-! ### locking a thing while a statement runs -/
end
/-- the statement runs while the thing at d is locked (read, not written); d and what stands there are the reading's choice -/
def tLock (t : TS) : TS := fun D σ H => ∃ d u, H d = some u ∧ Mut (some u) ∧ ∀ od, t ⟨fun σ' H' => H' d = some (.frz od u) ∧ D.nx σ' (upd H' d u), fun v H' => H' d = some (.frz od u) ∧ D.rt v (upd H' d u), fun σ' H' => H' d = some (.frz od u) ∧ D.bk σ' (upd H' d u), fun σ' H' => H' d = some (.frz od u) ∧ D.ct σ' (upd H' d u)⟩ σ (upd H d (.frz od u))
def tLockE (t : TE) : TE := fun σ H Q => ∃ d u, H d = some u ∧ Mut (some u) ∧ ∀ od, t σ (upd H d (.frz od u)) fun v H' => H' d = some (.frz od u) ∧ Q v (upd H' d u)
section
variable {X : Cx}

/-! ### one iterator just laid -/
theorem pi_one {tg : Expr} {pins : List (Addr × Obj)} {σ : St} {H : Hp} {s : Shared} {R : It → Hp → Prop} {J : It} {tn : Nat → Heap → Prop} {tk : Nat} (I : Inv X pins σ H s) (o : Obj)
    (T : Turn X.prog X.w X.K tg J [s.heap.objs.size] s.heap.objs.size tn) (st : tn 0 (s.heap.push o)) (q : R J H) : PIE X pins σ tg R (.ref s.heap.objs.size) { s with heap := s.heap.push o, toks := tk } := by
  refine ⟨s.heap.objs.size, [s.heap.objs.size], tn, J, H, rfl, I.kept fun b ob e => Heap.get?_push_of_some _ e, T, st, fun b hb => ?_, q⟩
  have e : b = s.heap.objs.size := by simpa using hb
  subst e
  exact I.fpOk (Nat.le_refl _) (I.hok.fresh (Nat.le_refl _))
end

/-! ### range with a step -/
/-- lo, lo + c, .. (n of them) -/
def Itc (lo c : Int) (n : Nat) : It := ⟨fun i _ => i < n, fun i H x H' => H' = H ∧ x = .int (lo + (i : Nat) * c), fun i _ => n ≤ i⟩
theorem turn_rangeC {P : Program} {w : World} {K : PySem.W.Frag} {tg : Expr} (it : Addr) (lo c : Int) (n : Nat) : Turn P w K tg (Itc lo c n) [it] it (fun i h => IsRangeIter h it (lo + (i : Nat) * c) ((n : Int) - (i : Nat)) c) where
  mem := by simp
  obj := fun i h st b hb => by
    have e : b = it := by simpa using hb
    subst e
    exact ⟨_, st, fun v z => nomatch z⟩
  keep := fun i h h' st k => k it (by simp) _ st
  item := by
    intro X hP hw hK hc i pins s σ H E I hf st hg
    subst hP hw hK
    obtain ⟨f0, f1, f2, f3, f4, f5⟩ := hf it (by simp)
    have W := Walks.range (prog := X.prog) (w := X.w) (I.ok.hd hc) it lo c n
    refine W.item i s _ _ hg st fun v h' tk hv st' kk => ?_
    obtain ⟨t, rfl⟩ := hv
    have I1 : Inv X pins σ H { s with heap := h', toks := tk } := I.turned (fun b o hb e => kk b o (by simpa using hb) e) f0 f1 f3 f4 f5
    exact ⟨_, rfl, go_of (s := { s with heap := h', toks := tk }) (n := "range_iterator") st' rfl rfl (by decide) ⟨.int (lo + (i : Nat) * c), H, I1, ⟨t, rfl⟩, ⟨rfl, rfl⟩, st', fun b hb => (hf b hb).1⟩⟩
  done := by
    intro X hP hw hK hc i pins s σ H E I hf st hg
    subst hP hw hK
    obtain ⟨f0, f1, f2, f3, f4, f5⟩ := hf it (by simp)
    exact wpAny_pyNext_range_end (I.ok.hd hc) st (by have : n ≤ i := hg; omega) fun h' eb => ⟨rfl, I.turned (t' := s.toks) (fun b o hb e => eb b o hb e) f0 f1 f3 f4 f5⟩
  self := fun A i s Q E st h => wpAny_pyIter_rangeiter st h
/-- range(i, j, c): small bounds, n items -/
def RgC (i j c : Int) (n : Nat) : Prop := c ≠ 0 ∧ c.natAbs < 1073741824 ∧ Builtin.Range.small i j c = true ∧ Builtin.Range.rangeSize i j c = n
def iRng3 (ta : TA) : TI := fun σ H R => ta σ H fun vs H1 => ∃ (i j c : Int) (n : Nat), vs = [.int i, .int j, .int c] ∧ RgC i j c n ∧ R (Itc i c n) H1
section
variable {X : Cx} {tg : Expr}
theorem pi_range3 {a b c : Expr} {ta : TA} {p pos : Pos} (hg : Gl X "range") (hm : X.mg "range" = none) (ha : PA X [a, b, c] ta)
    (hs : starEach [a, b, c] X.env = (false, eval a X.env) :: starEach [b, c] X.env := by rfl) (hpl : (backTo pos (starEach [b, c] X.env)).any (·.1) = false := by rfl) :
    PI X tg (.Call (.Name "range" p) [a, b, c] [] pos) (iRng3 ta) := by
  intro pins s σ H R I h
  refine Call_ (ld_blt I hg hm boot_range (PyProof.Rows.callWith_type1 (thn (ha pos pins s σ H _ I h) fun us s1 ⟨vs, H1, I1, r1, q1⟩ => ?_) hs hpl))
  obtain ⟨i, j, k, n, e, ⟨c0, c1, c2, c3⟩, q⟩ := q1
  subst e
  cases r1 with
  | cons r rr =>
    cases rr with
    | cons r' rr =>
      cases rr with
      | cons r'' rr =>
        cases rr
        obtain ⟨t, rfl⟩ := r
        obtain ⟨t', rfl⟩ := r'
        obtain ⟨t'', rfl⟩ := r''
        refine call_range_3 c0 ?_ (.inl (PyProof.noPylong_small c1))
        refine wpAny_pyIter_range (IsRange.new ..) c2 ?_
        have I2 : Inv X pins σ H1 { s1 with heap := s1.heap.push { cls := .type "range", data := .fields #[.int i t, .int j t', .int k t''] } } := I1.kept (t' := s1.toks) fun b o e => Heap.get?_push_of_some _ e
        refine pi_one (tk := s1.toks) I2 _ (turn_rangeC _ i k n) ?_ q
        have e1 : i + ((0 : Nat) : Int) * k = i := by simp
        have e2 : (n : Int) - ((0 : Nat) : Int) = Builtin.Range.rangeSize i j k := by rw [c3]; simp
        show IsRangeIter _ _ (i + ((0 : Nat) : Int) * k) ((n : Int) - ((0 : Nat) : Int)) k
        rw [e1, e2]
        exact Heap.get?_push_size _ rfl
end

/-! ### reversed(list) -/
/-- the list at a (n items at the start, which the loop leaves there), from its end -/
def Itv (K : PySem.W.Frag) (a : Addr) (n : Nat) : It :=
  ⟨fun i H => i < n ∧ ∃ (xs : List V) (x : V), SqL K H a xs ∧ xs[n - 1 - i]? = some x, fun i H x H' => H' = H ∧ ∀ xs, SqL K H a xs → xs[n - 1 - i]? = some x, fun i _ => n ≤ i⟩
def iRev (K : PySem.W.Frag) (ta : TA) : TI := fun σ H R => ta σ H fun vs H1 => ∃ (a : Addr) (xs : List V), vs = [.ref a] ∧ SqL K H1 a xs ∧ R (Itv K a xs.length) H1
section
variable {X : Cx} {tg : Expr}
end

/-! ### a str -/
def Its (x : Str) : It := ⟨fun i _ => i < x.cps.size, fun i H v H' => H' = H ∧ ∃ c, x.cps[i]? = some c ∧ v = .str ⟨#[c]⟩, fun i _ => x.cps.size ≤ i⟩
def iStr (te : TE) : TI := fun σ H R => te σ H fun v H1 => ∃ x, v = .str x ∧ R (Its x) H1

/-! ### a dict's keys: any dict's entries -/
section
variable {prog : Program} {w : World} {A : Around} {E : Value → Shared → Prop} {s : Shared}
end

/-! ### a locked dict -/
theorem paired_get {α β : Type} {G : α → β → Prop} {l₁ : List α} {l₂ : List β} (h : Paired G l₁ l₂) : ∀ {i : Nat} {a : α}, l₁[i]? = some a → ∃ b, l₂[i]? = some b ∧ G a b := by
  induction h with
  | nil => intro i a e; simp at e
  | @cons a b l₁ l₂ r t ih =>
    intro i a' e
    cases i with
    | zero =>
      simp only [List.getElem?_cons_zero, Option.some.injEq] at e
      subst e
      exact ⟨b, rfl, r⟩
    | succ j =>
      simp only [List.getElem?_cons_succ] at e ⊢
      exact ih e
section
variable {X : Cx} {pins : List (Addr × Obj)} {σ : St} {H : Hp} {s : Shared} {d : Addr} {o : Obj}
end

/-- the keys of the locked dict at d, in their order -/
def Itk (d : Addr) (o : Obj) (kvs : List (Key × V)) : It :=
  ⟨fun i H => H d = some (.frz o (.dK kvs)) ∧ i < kvs.length, fun i H x H' => H' = H ∧ ∃ k v, kvs[i]? = some (k, v) ∧ x = kV k, fun i H => H d = some (.frz o (.dK kvs)) ∧ kvs.length ≤ i⟩
/-- .. of tuple keys: the key's own tuple -/
def Itkt (d : Addr) (o : Obj) (kvs : List (List Key × V)) : It :=
  ⟨fun i H => H d = some (.frz o (.dT kvs)) ∧ i < kvs.length, fun i H x H' => H' = H ∧ ∃ (k : List Key) (v : V) (q : Addr), kvs[i]? = some (k, v) ∧ x = .ref q ∧ H q = some (.tup (k.map kV)), fun i H => H d = some (.frz o (.dT kvs)) ∧ kvs.length ≤ i⟩
/-- the values -/
def Itd (d : Addr) (o : Obj) (kvs : List (Key × V)) : It :=
  ⟨fun i H => H d = some (.frz o (.dK kvs)) ∧ i < kvs.length, fun i H x H' => H' = H ∧ ∃ k, kvs[i]? = some (k, x), fun i H => H d = some (.frz o (.dK kvs)) ∧ kvs.length ≤ i⟩
/-- the pairs, each a new tuple -/
def Iti (d : Addr) (o : Obj) (kvs : List (Key × V)) : It :=
  ⟨fun i H => H d = some (.frz o (.dK kvs)) ∧ i < kvs.length, fun i H x H' => ∃ T k v, kvs[i]? = some (k, v) ∧ x = .ref T ∧ H T = none ∧ H' = upd H T (.tup [kV k, v]), fun i H => H d = some (.frz o (.dK kvs)) ∧ kvs.length ≤ i⟩
section
variable {P : Program} {w : World} {K : PySem.W.Frag} {tg : Expr} {d : Addr} {o : Obj} {es : Array DictEntry} {ep : Nat}
end

/-! ### for k in d, d.keys(), d.values(), d.items() -/
/-- the dict is locked (tLock, or by the caller) -/
def iKeys (td : TE) : TI := fun σ H R => td σ H fun x H1 => ∃ d o, x = .ref d ∧ ((∃ kvs, H1 d = some (.frz o (.dK kvs)) ∧ R (Itk d o kvs) H1) ∨ ∃ kvs, H1 d = some (.frz o (.dT kvs)) ∧ R (Itkt d o kvs) H1)
def iVals (td : TE) : TI := fun σ H R => td σ H fun x H1 => ∃ d o kvs, x = .ref d ∧ H1 d = some (.frz o (.dK kvs)) ∧ R (Itd d o kvs) H1
def iItems (td : TE) : TI := fun σ H R => td σ H fun x H1 => ∃ d o kvs, x = .ref d ∧ H1 d = some (.frz o (.dK kvs)) ∧ R (Iti d o kvs) H1
def iKeysM (td : TE) : TI := fun σ H R => td σ H fun x H1 => ∃ d o kvs, x = .ref d ∧ H1 d = some (.frz o (.dK kvs)) ∧ R (Itk d o kvs) H1
section
variable {X : Cx} {tg e : Expr} {td : TE} {apos cpos : Pos}
end

/-! ### enumerate(list) -/
/-- the list at a as it stands at each turn, each item in a new pair -/
def Ite (K : PySem.W.Frag) (a : Addr) : It :=
  ⟨fun i H => ∃ (xs : List V) (x : V), SqL K H a xs ∧ xs[i]? = some x, fun i H v H' => ∃ T x, v = .ref T ∧ H T = none ∧ H' = upd H T (.tup [.int (i : Nat), x]) ∧ ∀ xs, SqL K H a xs → xs[i]? = some x, fun i H => ∃ xs : List V, SqL K H a xs ∧ xs.length ≤ i⟩
def iEnum (K : PySem.W.Frag) (ta : TA) : TI := fun σ H R => ta σ H fun vs H1 => ∃ a xs, vs = [.ref a] ∧ SqL K H1 a xs ∧ R (Ite K a) H1
/-! ### zip(list, list) -/
/-- the lists at a and b as they stand at each turn, the items in new pairs -/
def Itz (K : PySem.W.Frag) (a b : Addr) : It :=
  ⟨fun i H => ∃ (xs ys : List V) (x y : V), SqL K H a xs ∧ SqL K H b ys ∧ xs[i]? = some x ∧ ys[i]? = some y,
    fun i H v H' => ∃ T x y, v = .ref T ∧ H T = none ∧ H' = upd H T (.tup [x, y]) ∧ (∀ xs, SqL K H a xs → xs[i]? = some x) ∧ ∀ ys, SqL K H b ys → ys[i]? = some y,
    fun i H => ∃ xs ys : List V, SqL K H a xs ∧ SqL K H b ys ∧ (xs.length ≤ i ∨ ys.length ≤ i)⟩
def iZip (K : PySem.W.Frag) (ta : TA) : TI := fun σ H R => ta σ H fun vs H1 => ∃ a b xs ys, vs = [.ref a, .ref b] ∧ SqL K H1 a xs ∧ SqL K H1 b ys ∧ R (Itz K a b) H1
end L2

section 
namespace Bits
open PySem PyProof.Rows








end Bits
end 

section 
namespace TL
open PySem PySem.Builtin PySem.Builtin.Str PySem.StrLaws

abbrev tl (x : Str) : List Nat := x.cps.toList

/-! ### the list functions -/
/-- S stands at the head of l -/
def pre (S l : List Nat) : Bool := l.take S.length == S
/-- l cut at each S from the left; k signs are still to be passed over -/
def spl (S : List Nat) : Nat → List Nat → List Nat → List (List Nat)
  | _, acc, [] => [acc]
  | 0, acc, c :: r => if pre S (c :: r) = true then acc :: spl S (S.length - 1) [] r else spl S 0 (acc ++ [c]) r
  | k + 1, acc, _ :: r => spl S k acc r
/-- what stands before the first S, and behind it -/
def par (S : List Nat) : List Nat → List Nat → Option (List Nat × List Nat)
  | _, [] => none
  | acc, c :: r => if pre S (c :: r) = true then some (acc, (c :: r).drop S.length) else par S (acc ++ [c]) r




/-! ### the model's split and partition are these -/




/-! ### computing spl and par -/

/-- joined lists -/
def joinL (S : List Nat) : List (List Nat) → List Nat
  | [] => []
  | [p] => p
  | p :: q :: r => p ++ (S ++ joinL S (q :: r))

/-! ### digits -/
/-- the signs of a number -/
def numL (n : Nat) : List Nat := (Nat.toDigits 10 n).map Char.toNat

/-! ### words: x.split() -/
def wstep (st : List (List Nat) × List Nat) (c : Nat) : List (List Nat) × List Nat :=
  if Unicode.isSpace c = true then (if st.2 = [] then st else (st.1 ++ [st.2], [])) else (st.1, st.2 ++ [c])
def wfin (st : List (List Nat) × List Nat) : List (List Nat) := if st.2 = [] then st.1 else st.1 ++ [st.2]
end TL
end 

namespace L2
open PySem PySem.Spec PyProof.Rows



/-- a new list of texts, tracked -/
def rNewStrs (ys : List Str) : Hp → VK → Prop := fun H Q => ∀ p, H p = none → Q (.ref p) (upd H p (.lst (ys.map V.str)))

section
variable {X : Cx} {pins : List (Addr × Obj)} {σ : St} {H : Hp} {s : Shared} {Q : VK}
end

section
variable {X : Cx}





/-! ### of a text alone -/

/-! ### of a text and a text -/

end

section
variable {X : Cx} {o e : Expr} {to te : TE}
def tM0 (r : V → List V → Hp → VK → Prop) (to : TE) : TE := fun σ H Q => to σ H fun x H1 => (∃ a, x = .str a) ∧ r x [] H1 Q
def tM1 (r : V → List V → Hp → VK → Prop) (to te : TE) : TE := fun σ H Q => to σ H fun x H1 => (∃ a, x = .str a) ∧ te σ H1 fun y H2 => r x [y] H2 Q

end
end L2

namespace L2
open PySem PySem.Spec PyProof.Rows

section
variable {X : Cx}
end

/-! ### slices of a text -/

/-- a part, clipped, as the text's slice reckons it -/
def clipS (n d : Nat) : Option Int → Int
  | none => (d : Int)
  | some i => max 0 (min (if i < 0 then i + (n : Int) else i) (n : Int))

/-- z[lo:hi] -/
def cutS (z : Str) (lo hi : Option Int) : Str :=
  ⟨((z.cps.toList.drop (HT.sIx z.length 0 lo)).take (HT.sIx z.length z.length hi - HT.sIx z.length 0 lo)).toArray⟩
def rSlS : V → Option Int → Option Int → Hp → VK → Prop := fun x lo hi H Q => ∃ z, x = .str z ∧ z.length ≤ sizeLine ∧ Q (.str (cutS z lo hi)) H
end L2

namespace Att
open PySem PySem.W PySem.Calls PyProof.Rows

/-! ### the script -/



/-! ### the attachment: holds_open's last premise (the goal 'hc' behind k_head) from a wpAny of the law's body -/



/-! ### rules over ANY heap (no ledger) from facts about the written part K: the library's own take a ledger (News) for what they write -/
section
variable {prog : Program} {w : World} {A : Around} {E : Value → Shared → Prop} {s : Shared} {K : Frag}





/-! the whole heap as the ledger: makes every rule that writes through a ledger a rule over any heap -/
def noObjs (h : Heap) : Heap := { h with objs := #[] }
def ledger (h : Heap) (L d : Addr) : List (Addr × Obj) := (List.range h.objs.size).filterMap fun a => if a = L ∨ a = d then none else (h.get? a).map fun o => (a, o)

end
end Att

namespace L2
open PySem PySem.Spec PyProof.Rows


/-- nothing is tracked but the script, known to the object (or it is an object of the module) -/
def Only (H : Hp) : Prop := ∀ b, H b = none ∨ ∃ o xs, H b = some (.frz o (.lst xs))

end L2

namespace L2
open PySem PySem.Spec PyProof.Rows

abbrev KOf {K : PySem.W.Frag} {h : Heap} (_ : K.In h) : PySem.W.Frag := K

end L2

/- THE LAST THEOREM (shape; LID, My.* are yours):
   My.Adr: a structure of the addresses that your layer names (classes, functions); My.Txt K t: a structure (Prop) of the equations over K;
   My.txt_mk : {K} {implicit addresses ..} (e1 : nsIn K mainGlobals "law" = some (some (.ref f))) (e2 : K.lookup f = some ⟨oc, od, .func (fnOf "law" "law" params body scope dV kV doc pm an cdv ct), sl⟩) (e3 : codeIn K cdv "law" = true) .. : ∃ t, My.Txt K t

set_option maxRecDepth 100000 in
set_option maxHeartbeats 0 in
theorem PySem.Challenge.cw_LID_holds : PySem.Challenge.rw_LID.Holds := by
  w_on; o_law; k_head; (case hw => w_witness2)
  k_fill
  refine L2.walk_of (l := PySem.Challenge.rw_LID) (n := 63) (k := 40) (x := "script") (CX := fun w => ..) (sp := fun _ => My.sp_law) rfl (by decide) rfl ⟨rfl, by decide, by decide⟩ (fun w h Y => PySem.W.kIn_of Y) ?F ?S ?C
  case F =>
    intro w mg fa h KX G hmg
    have T : ∃ t, My.Txt (L2.KOf KX) t := by
      dsimp only [L2.KOf]                          -- K must stand as «<heap const> w.params» for k_is
      refine' My.txt_mk ?e1 ?e2 ?e3 ..
      (case e1 => PySem.W.k_is)                    -- in the order: a name -> its address -> its object -> its parts
      (case e2 => PySem.W.k_is)
      ..
    obtain ⟨t, T⟩ := T
    have e0 := hmg.symm.trans (PySem.W.mg_of KX G T.law)
    cases e0                                       -- fa is the law's own address
    exact ⟨_, fun s u => .of_eq rfl, fun base kb nb => My.law_fn T kb nb⟩     -- if «.of_eq rfl» comes too early: refine' ⟨_, ?b, fun base kb nb => My.law_fn T kb nb⟩; exact fun s u => .of_eq rfl
  case S => exact fun w H a ns hl hO hS => ..
  case C => exact ..
(the tactic k_is has no namespace: write k_is) -/

/-! SHORT WORDS over the layer: a def of the text, its body, what a loop and a test want. -/
namespace L2
open PySem PySem.Spec PyProof.Rows

/-! ### the text by places -/
/-- the j-th statement of a class's body -/
def inClass (s : Stmt) (j : Nat) : Stmt := match s with
  | .ClassDef _ _ _ body _ _ _ _ _ _ _ => body.getD j (.Pass ⟨0, 0, 0, 0⟩)
  | _ => .Pass ⟨0, 0, 0, 0⟩
def defArgs (s : Stmt) : Arguments := match s with
  | .FunctionDef _ a _ _ _ _ _ _ _ _ => a
  | _ => { posonlyargs := [], args := [], vararg := none, kwonlyargs := [], kw_defaults := [], kwarg := none, defaults := [] }
def defBody (s : Stmt) : List Stmt := match s with
  | .FunctionDef _ _ b _ _ _ _ _ _ _ => b
  | _ => []
def defScope (s : Stmt) : Scope := match s with
  | .FunctionDef _ _ _ _ _ _ sc _ _ _ => sc
  | _ => { kind := .function, names := [], isGenerator := false, isCoroutine := false }

/-! ### no exception leaves a def -/
abbrev CX0 : CXT := fun _ _ _ _ _ _ => False
abbrev E0 : XK := fun _ _ _ => False
theorem pass0 {X : Cx} : Passes CX0 X E0 := fun _ _ _ _ _ _ _ h => h.elim

/-! ### a def (or method) of the text as it stands behind the top -/
structure Fun (K : PySem.W.Frag) (x qual : Str) (st : Stmt) (f : Addr) (fd : FuncData) : Prop where
  ex : ∃ (oc : Value) (od : Option Addr) (kV doc pm : Value) (an : Option Addr) (cdv ct : Value) (osl : Array (Option Value)),
    fd = PySem.W.fnOf x qual (defArgs st) (defBody st) (defScope st) .none kV doc pm an cdv ct ∧ K.lookup f = some ⟨oc, od, .func fd, osl⟩ ∧ PySem.W.codeIn K cdv qual = true
  kp : PySem.W.keepIn K (.ref f) = true
section
variable {P : Program} {w : World} {K : PySem.W.Frag} {mg : Str → Option Value} {base : Heap}
/-- THE RULE for a def: its body as a term of rules, and the reading of that term -/
theorem Fun.ok {x qual : Str} {st : Stmt} {f : Addr} {fd : FuncData} {N ps : List Str} {k : Nat} {sp : Sp} (F : Fun K x qual st f fd) (S : FnScope N ps (defScope st)) (len : ∀ vs H Q E, sp vs H Q E → vs.length = ps.length)
    (hbody : ∀ (cdv : Value) (A : Around) (outer : List Env) (s : Shared) (H : Hp) (vs : List V) (Q : VK) (E : XK), Room k (A.deeper (envOfC qual (defScope st) s.heap.objs.size f cdv)) → sp vs H Q E →
      ∃ t, PSs (cxOf CX0 P w K mg base N qual (defScope st) f cdv A outer s H E).nox (defBody st) t ∧ t { nx := fun _ H' => Q .non H', rt := Q } (start N vs) H) : FnOk P w K mg base CX0 (k + 1) f fd ps sp := by
  obtain ⟨oc, od, kV, doc, pm, an, cdv, ct, osl, rfl, lk, hcd⟩ := F.ex
  refine fn_of lk hcd S len fun A outer s H vs Q E hr hsp => ?_
  obtain ⟨t, h, q⟩ := hbody cdv A outer s H vs Q E hr hsp
  exact ⟨t, h.nox, q⟩
/-- how its arguments bind (no defaults): h is «fun _ _ _ _ _ _ us hl => match us, hl with | [_, _], _ => rfl», one _ a parameter -/
theorem Fun.binds {x qual : Str} {st : Stmt} {f : Addr} {fd : FuncData} {ps : List Str} (F : Fun K x qual st f fd)
    (h : ∀ (kV doc pm : Value) (an : Option Addr) (cdv ct : Value) (us : List Value), us.length = ps.length → bindArgs (PySem.W.fnOf x qual (defArgs st) (defBody st) (defScope st) .none kV doc pm an cdv ct) ⟨us, []⟩ = pure (ps.zip us)) : Binds K fd ps [] := by
  obtain ⟨oc, od, kV, doc, pm, an, cdv, ct, osl, rfl, lk, hcd⟩ := F.ex
  exact .all (h kV doc pm an cdv ct)
theorem fun_mk {x qual : Str} {st : Stmt} {f : Addr} {oc : Value} {od an : Option Addr} {osl : Array (Option Value)} {kV doc pm cdv ct : Value} (l : K.lookup f = some ⟨oc, od, .func (PySem.W.fnOf x qual (defArgs st) (defBody st) (defScope st) .none kV doc pm an cdv ct), osl⟩)
    (c : PySem.W.codeIn K cdv qual = true) (k : PySem.W.keepIn K (.ref f) = true) : Fun K x qual st f (PySem.W.fnOf x qual (defArgs st) (defBody st) (defScope st) .none kV doc pm an cdv ct) := ⟨⟨oc, od, kV, doc, pm, an, cdv, ct, osl, rfl, l, c⟩, k⟩
end

/-! ### expressions in short: the name that stands in the i-th slot -/
section
variable {X : Cx}
theorem pv (i : Nat) {x : Str} {pos : Pos} (hN : X.N[i]? = some x := by rfl) (hv : Vis X.env.scope x := by first | exact Or.inl rfl | exact Or.inr (Or.inl rfl) | exact Or.inr (Or.inr rfl)) (hd : (x == ("__debug__" : Str)) = false := by decide)
    (hcd : (x == ("__classdict__" : Str)) = false := by decide) : PE X (.Name x pos) (tVar i) := pe_var hN hv hd hcd
end

/-! ### tests -/
theorem iteF {A B : Prop} (h : B) : if false = true then A else B := by
  rw [if_neg Bool.false_ne_true]
  exact h
theorem iteT {A B : Prop} (h : A) : if true = true then A else B := by
  rw [if_pos rfl]
  exact h
theorem ite2 {c A B : Prop} [Decidable c] (h1 : c → A) (h2 : ¬ c → B) : if c then A else B := by
  by_cases h : c
  · rw [if_pos h]
    exact h1 h
  · rw [if_neg h]
    exact h2 h

/-! ### heaps -/
/-- all that was tracked is as it was -/
def Same (H H' : Hp) : Prop := ∀ b o, H b = some o → H' b = some o
theorem Same.refl (H : Hp) : Same H H := fun _ _ h => h
theorem Same.trans {H H1 H2 : Hp} (a : Same H H1) (b : Same H1 H2) : Same H H2 := fun c o h => b c o (a c o h)
theorem Same.seq {K : PySem.W.Frag} {H H' : Hp} {a : Addr} {xs : List V} (e : Same H H') (h : SqL K H a xs) : SqL K H' a xs := by
  rcases h with (h | ⟨o, h⟩) | h
  · exact .inl (.inl (e _ _ h))
  · exact .inl (.inr ⟨o, e _ _ h⟩)
  · exact .inr h

/-! ### a dict's pairs: keys that differ -/
section
variable {κ : Type} [DecidableEq κ]
end
/-! ### lists -/
theorem at_of {xs : List V} {z : Int} {j : Nat} {v : V} (e : z = (j : Int)) (h : xs[j]? = some v) : atI xs z = some v := by
  rw [e]
  exact atI_nat h
end L2

end

section
set_option Elab.async false
set_option linter.all false
set_option maxRecDepth 100000
set_option maxHeartbeats 2000000
namespace L2
open PySem PySem.Spec PyProof.Rows
open PySem.W (WData Codec OpenSpec Well WellAll ReadsW ReadsAllW)
/-! ### an answer as data -/
mutual
/-- x stands for the datum d, lists and tuples all the way -/
inductive Dw (K : PySem.W.Frag) (H : Hp) : V → WData → Prop
  | non : Dw K H .non .none
  | bl (b : Bool) : Dw K H (.bl b) (.bool b)
  | int (i : Int) : Dw K H (.int i) (.int i)
  | str (x : Str) : Dw K H (.str x) (.str x)
  | byt (b : Array UInt8) : Dw K H (.byt b) (.bytes b.toList)
  | lst {a : Addr} {xs : List V} {ds : List WData} : SqL K H a xs → DwAll K H xs ds → Dw K H (.ref a) (.list ds)
  | tup {a : Addr} {xs : List V} {ds : List WData} : SqT K H a xs → DwAll K H xs ds → Dw K H (.ref a) (.tuple ds)
inductive DwAll (K : PySem.W.Frag) (H : Hp) : List V → List WData → Prop
  | nil : DwAll K H [] []
  | cons {v : V} {vs : List V} {d : WData} {ds : List WData} : Dw K H v d → DwAll K H vs ds → DwAll K H (v :: vs) (d :: ds)
end
theorem dw_ints {K : PySem.W.Frag} {H : Hp} : ∀ ns : List Int, DwAll K H (ns.map V.int) (ns.map WData.int)
  | [] => .nil
  | n :: r => .cons (.int n) (dw_ints r)
theorem ints_dw {K : PySem.W.Frag} {H : Hp} : ∀ (ns : List Int) (xs : List V), DwAll K H xs (ns.map WData.int) → xs = ns.map V.int
  | [], xs, h => by
    cases h
    rfl
  | n :: r, xs, h => by
    cases h with
    | cons h1 h2 =>
      cases h1
      rw [ints_dw r _ h2] <;> rfl
section
variable {P : Program} {w : World} {K : PySem.W.Frag} {H : Hp} {h : Heap} {R : PySem.W.WRecords} {cl : Str → Option Addr}
theorem sqL_at {a : Addr} {xs : List V} (hok : HOk P w H h) (KX : K.In h) (q : SqL K H a xs) : ∃ (its : List Value) (o : Obj) (n : Nat), Vals xs its ∧ h.get? a = some o ∧ o.cls = .type "list" ∧ o.data = .seq its.toArray n := by
  rcases q with q | ⟨o, its, n, e, hc, _, hd, _, hv⟩
  · obtain ⟨_, its, n, hv, e⟩ := (show ObjOk P w H h a (.lst xs) from q.ok hok)
    exact ⟨its, _, n, hv, e, rfl, rfl⟩
  · exact ⟨its.toList, o, n, hv, KX _ _ e, hc, by simp [hd]⟩
theorem sqT_at {a : Addr} {xs : List V} (hok : HOk P w H h) (KX : K.In h) (q : SqT K H a xs) : ∃ (its : List Value) (o : Obj) (n : Nat), Vals xs its ∧ h.get? a = some o ∧ o.cls = .type "tuple" ∧ o.data = .seq its.toArray n := by
  rcases q with q | ⟨o, its, n, e, hc, hd, _, hv⟩
  · obtain ⟨_, its, hv, o, e, hc, n, hd⟩ := (show ObjOk P w H h a (.tup xs) from q.ok hok)
    exact ⟨its, o, n, hv, e, hc, hd⟩
  · exact ⟨its.toList, o, n, hv, KX _ _ e, hc, by simp [hd]⟩
mutual
theorem Dw.reads (hok : HOk P w H h) (KX : K.In h) : ∀ (d : WData) (v : V) (u : Value), Dw K H v d → RelV v u → ∃ as, ReadsW R cl h u d as
  | .none, _, _, x, r => by
    cases x
    cases r
    exact ⟨_, ReadsW.none⟩
  | .bool b, _, _, x, r => by
    cases x
    cases r
    exact ⟨_, ReadsW.bool b⟩
  | .int i, _, _, x, r => by
    cases x
    obtain ⟨t, rfl⟩ := r
    exact ⟨_, ReadsW.int i t⟩
  | .str s, _, _, x, r => by
    cases x
    obtain ⟨t, rfl⟩ := r
    exact ⟨_, ReadsW.str s t⟩
  | .bytes b, _, _, x, r => by
    cases x
    obtain ⟨t, rfl⟩ := r
    exact ⟨_, ReadsW.bytes _ t⟩
  | .list ds, _, _, x, r => by
    cases x with
    | lst hs ha =>
      cases r
      obtain ⟨its, o, n, rv, ho, hc, hd⟩ := sqL_at hok KX hs
      obtain ⟨as, hr⟩ := Dw.readsAll hok KX ds _ its ha rv
      exact ⟨_, ReadsW.list ho hc hd hr⟩
  | .tuple ds, _, _, x, r => by
    cases x with
    | tup hs ha =>
      cases r
      obtain ⟨its, o, n, rv, ho, hc, hd⟩ := sqT_at hok KX hs
      obtain ⟨as, hr⟩ := Dw.readsAll hok KX ds _ its ha rv
      exact ⟨_, ReadsW.tuple ho hc hd hr⟩
  | .float _, _, _, x, _ => by cases x
  | .dict _, _, _, x, _ => by cases x
  | .bytearray _, _, _, x, _ => by cases x
  | .set _, _, _, x, _ => by cases x
  | .frozenset _, _, _, x, _ => by cases x
  | .obj _ _, _, _, x, _ => by cases x
theorem Dw.readsAll (hok : HOk P w H h) (KX : K.In h) : ∀ (ds : List WData) (vs : List V) (us : List Value), DwAll K H vs ds → Vals vs us → ∃ as, ReadsAllW R cl h us ds as
  | [], _, _, x, r => by
    cases x
    cases r
    exact ⟨_, ReadsAllW.nil⟩
  | d :: ds, _, _, x, r => by
    cases x with
    | cons h1 h2 =>
      cases r with
      | cons r1 r2 =>
        obtain ⟨as, q1⟩ := Dw.reads hok KX d _ _ h1 r1
        obtain ⟨bs, q2⟩ := Dw.readsAll hok KX ds _ _ h2 r2
        exact ⟨_, ReadsAllW.cons q1 q2⟩
end
end
/-! ### the arguments -/
mutual
/-- data that a codec tells -/
def plW : WData → Bool
  | .none => true
  | .bool _ => true
  | .int _ => true
  | .str _ => true
  | .bytes _ => true
  | .list xs => plWs xs
  | .tuple xs => plWs xs
  | _ => false
def plWs : List WData → Bool
  | [] => true
  | x :: r => plW x && plWs r
end
theorem plWs_map {α : Type} {f : α → WData} (h : ∀ a, plW (f a) = true) : ∀ l : List α, plWs (l.map f) = true
  | [] => rfl
  | x :: r => by
    show (plW (f x) && plWs (r.map f)) = true
    rw [h x, plWs_map h r] <;> rfl
theorem pl_enc : ∀ (c : Codec) (a : c.denote), plW (c.enc a) = true
  | .unit, _ => rfl
  | .bool, _ => rfl
  | .int _ _, _ => rfl
  | .nat _ _, _ => rfl
  | .u8, _ => rfl
  | .bytes _ _, _ => rfl
  | .text _ _ _ _, _ => rfl
  | .list _ _ c, a => plWs_map (fun x => pl_enc c x) a
  | .pair c d, a => by
    show (plW (c.enc a.1) && (plW (d.enc a.2) && true)) = true
    rw [pl_enc c a.1, pl_enc d a.2] <;> rfl
  | .triple c d e, a => by
    show (plW (c.enc a.1) && (plW (d.enc a.2.1) && (plW (e.enc a.2.2) && true))) = true
    rw [pl_enc c a.1, pl_enc d a.2.1, pl_enc e a.2.2] <;> rfl
  | .option c, none => rfl
  | .option c, some x => pl_enc c x
theorem pl_encAll : ∀ (cs : List Codec) (a : Codec.denoteAll cs), plWs (Codec.encAll cs a) = true
  | [], _ => rfl
  | c :: cs, a => by
    show (plW (c.enc a.1) && plWs (Codec.encAll cs a.2)) = true
    rw [pl_enc c a.1, pl_encAll cs a.2] <;> rfl
theorem weight_mem : ∀ {xs : List WData} {d : WData}, d ∈ xs → d.weight ≤ WData.weightAll xs
  | [], d, h => absurd h (by simp)
  | x :: r, d, h => by
    show d.weight ≤ x.weight + 1 + WData.weightAll r
    rcases List.mem_cons.mp h with e | m
    · rw [e]
      omega
    · have z := weight_mem m
      omega
def toV : Value → V
  | .none => .non
  | .bool b => .bl b
  | .int i _ => .int i
  | .str x _ => .str x
  | .bytes b _ => .byt b
  | .ref a => .ref a
  | _ => .non
/-- a value of the arguments, its objects among A -/
def OkU (A : List Addr) : Value → Prop
  | .none => True
  | .bool _ => True
  | .int _ _ => True
  | .str _ _ => True
  | .bytes _ _ => True
  | .ref a => a ∈ A
  | _ => False
theorem OkU.mono {A B : List Addr} (h : ∀ a ∈ A, a ∈ B) : ∀ {u : Value}, OkU A u → OkU B u := fun {u} x => by
  cases u with
  | ref a => exact h a x
  | none => trivial
  | bool b => trivial
  | int i t => trivial
  | str s t => trivial
  | bytes b t => trivial
  | _ => exact False.elim x
theorem relV_toV {A : List Addr} {u : Value} (x : OkU A u) : RelV (toV u) u := by
  cases u with
  | ref a => rfl
  | none => rfl
  | bool b => rfl
  | int i t => exact ⟨t, rfl⟩
  | str s t => exact ⟨t, rfl⟩
  | bytes b t => exact ⟨t, rfl⟩
  | _ => exact False.elim x
theorem vals_toV {A : List Addr} : ∀ {vs : List Value}, (∀ u ∈ vs, OkU A u) → Vals (vs.map toV) vs
  | [], _ => .nil
  | u :: r, h => .cons (relV_toV (h u (List.mem_cons_self ..))) (vals_toV fun x hx => h x (List.mem_cons_of_mem _ hx))
/-- an object of the arguments -/
def ArgOb (h : Heap) (A : List Addr) (a : Addr) : Prop := ∃ vs : List Value, vs.length ≤ sizeLine ∧ (∀ u ∈ vs, OkU A u) ∧
  (h.get? a = some { cls := .type "list", data := .seq vs.toArray } ∨ h.get? a = some { cls := .type "tuple", data := .seq vs.toArray })
theorem ArgOb.mono {h : Heap} {A B : List Addr} {a : Addr} (k : ∀ a ∈ A, a ∈ B) (x : ArgOb h A a) : ArgOb h B a := by
  obtain ⟨vs, h1, h2, h3⟩ := x
  exact ⟨vs, h1, fun u hu => (h2 u hu).mono k, h3⟩
theorem wellAll_len {P : Params} {h : Heap} : ∀ {vs : List Value} {ds : List WData}, WellAll P h vs ds → vs.length = ds.length
  | _, _, .nil => rfl
  | _, _, .cons _ b => by
    show _ + 1 = _ + 1
    rw [wellAll_len b]
theorem well_list {P : Params} {h : Heap} {v : Value} {ds : List WData} (x : Well P h v (.list ds)) : ∃ (a : Addr) (vs : List Value), v = .ref a ∧ h.get? a = some { cls := .type "list", data := .seq vs.toArray } ∧ WellAll P h vs ds := by
  cases x with
  | list ho hall => exact ⟨_, _, rfl, ho, hall⟩
theorem well_tuple {P : Params} {h : Heap} {v : Value} {ds : List WData} (x : Well P h v (.tuple ds)) : ∃ (a : Addr) (vs : List Value), v = .ref a ∧ h.get? a = some { cls := .type "tuple", data := .seq vs.toArray } ∧ WellAll P h vs ds := by
  cases x with
  | tuple ho hall => exact ⟨_, _, rfl, ho, hall⟩
theorem well_cons {P : Params} {h : Heap} {us : List Value} {d : WData} {ds : List WData} (x : WellAll P h us (d :: ds)) : ∃ (v : Value) (vs : List Value), us = v :: vs ∧ Well P h v d ∧ WellAll P h vs ds := by
  cases x with
  | cons a b => exact ⟨_, _, rfl, a, b⟩
theorem line_of {n : Nat} (h : n ≤ 1048576) : n ≤ sizeLine := Nat.le_trans h (by decide)
section
variable {P : Params} {h : Heap}
mutual
theorem area_one : ∀ (d : WData) (v : Value), Well P h v d → plW d = true → d.weight ≤ 1048576 → ∃ A : List Addr, OkU A v ∧ ∀ a ∈ A, ArgOb h A a
  | .none, _, x, _, _ => by
    cases x
    exact ⟨[], trivial, fun a m => absurd m (by simp)⟩
  | .bool b, _, x, _, _ => by
    cases x
    exact ⟨[], trivial, fun a m => absurd m (by simp)⟩
  | .int i, _, x, _, _ => by
    cases x
    exact ⟨[], trivial, fun a m => absurd m (by simp)⟩
  | .str s, _, x, _, _ => by
    cases x
    exact ⟨[], trivial, fun a m => absurd m (by simp)⟩
  | .bytes b, _, x, _, _ => by
    cases x
    exact ⟨[], trivial, fun a m => absurd m (by simp)⟩
  | .list ds, _, x, p, z => by
    obtain ⟨a, vs, rfl, ho, hall⟩ := well_list x
    have z2 : WData.weightAll ds ≤ 1048576 := z
    obtain ⟨A, h1, h2⟩ := area_all ds _ hall p fun d hd => Nat.le_trans (weight_mem hd) z2
    have k : ∀ b ∈ A, b ∈ a :: A := fun b hb => List.mem_cons_of_mem _ hb
    refine ⟨a :: A, List.mem_cons_self .., fun b hb => ?_⟩
    rcases List.mem_cons.mp hb with e | m
    · rw [e]
      exact ⟨vs, line_of (by rw [wellAll_len hall]; exact Nat.le_trans (PySem.W.length_le_weightAllW ds) z2), fun u hu => (h1 u hu).mono k, .inl ho⟩
    · exact (h2 b m).mono k
  | .tuple ds, _, x, p, z => by
    obtain ⟨a, vs, rfl, ho, hall⟩ := well_tuple x
    have z2 : WData.weightAll ds ≤ 1048576 := z
    obtain ⟨A, h1, h2⟩ := area_all ds _ hall p fun d hd => Nat.le_trans (weight_mem hd) z2
    have k : ∀ b ∈ A, b ∈ a :: A := fun b hb => List.mem_cons_of_mem _ hb
    refine ⟨a :: A, List.mem_cons_self .., fun b hb => ?_⟩
    rcases List.mem_cons.mp hb with e | m
    · rw [e]
      exact ⟨vs, line_of (by rw [wellAll_len hall]; exact Nat.le_trans (PySem.W.length_le_weightAllW ds) z2), fun u hu => (h1 u hu).mono k, .inr ho⟩
    · exact (h2 b m).mono k
  | .float _, _, _, p, _ => Bool.noConfusion (show false = true from p)
  | .dict _, _, _, p, _ => Bool.noConfusion (show false = true from p)
  | .bytearray _, _, _, p, _ => Bool.noConfusion (show false = true from p)
  | .set _, _, _, p, _ => Bool.noConfusion (show false = true from p)
  | .frozenset _, _, _, p, _ => Bool.noConfusion (show false = true from p)
  | .obj _ _, _, _, p, _ => Bool.noConfusion (show false = true from p)
theorem area_all : ∀ (ds : List WData) (vs : List Value), WellAll P h vs ds → plWs ds = true → (∀ d ∈ ds, d.weight ≤ 1048576) → ∃ A : List Addr, (∀ u ∈ vs, OkU A u) ∧ ∀ a ∈ A, ArgOb h A a
  | [], _, x, _, _ => by
    cases x
    exact ⟨[], fun u m => absurd m (by simp), fun a m => absurd m (by simp)⟩
  | d :: ds, _, x, p, z => by
    obtain ⟨v, vs, rfl, x1, x2⟩ := well_cons x
    have q : plW d = true ∧ plWs ds = true := Bool.and_eq_true_iff.mp p
    obtain ⟨A, a1, a2⟩ := area_one d v x1 q.1 (z d (List.mem_cons_self ..))
    obtain ⟨B, b1, b2⟩ := area_all ds vs x2 q.2 fun e he => z e (List.mem_cons_of_mem _ he)
    have kA : ∀ b ∈ A, b ∈ A ++ B := fun b hb => List.mem_append.mpr (.inl hb)
    have kB : ∀ b ∈ B, b ∈ A ++ B := fun b hb => List.mem_append.mpr (.inr hb)
    refine ⟨A ++ B, fun u hu => ?_, fun b hb => ?_⟩
    · rcases List.mem_cons.mp hu with e | m
      · rw [e]
        exact a1.mono kA
      · exact (b1 u m).mono kB
    · rcases List.mem_append.mp hb with m | m
      · exact (a2 b m).mono kA
      · exact (b2 b m).mono kB
end
end
/-- what is tracked of an argument's object -/
def hoOf (o : Obj) : Option HO := match o.data with
  | .seq vs _ => if (o.cls == Value.type "list") = true then some (.frz o (.lst (vs.toList.map toV))) else some (.frz o (.tup (vs.toList.map toV)))
  | _ => none
def argH (K : PySem.W.Frag) (h : Heap) (A : List Addr) : Hp := fun b => if b ∈ A then (if (K.lookup b).isNone = true then (h.get? b).bind hoOf else none) else none
/-- nothing is tracked but what is known to the object -/
def OnlyF (H : Hp) : Prop := ∀ b, H b = none ∨ ∃ o u, H b = some (.frz o u)
theorem hoOf_lst (vs : List Value) : hoOf { cls := .type "list", data := .seq vs.toArray } = some (.frz { cls := .type "list", data := .seq vs.toArray } (.lst (vs.map toV))) := by
  show (if (Value.type "list" == Value.type "list") = true then some (HO.frz { cls := .type "list", data := .seq vs.toArray } (.lst (vs.toArray.toList.map toV))) else some (HO.frz { cls := .type "list", data := .seq vs.toArray } (.tup (vs.toArray.toList.map toV)))) = _
  rw [if_pos (beq_self_eq_true _)]
theorem hoOf_tup (vs : List Value) : hoOf { cls := .type "tuple", data := .seq vs.toArray } = some (.frz { cls := .type "tuple", data := .seq vs.toArray } (.tup (vs.map toV))) := by
  show (if (Value.type "tuple" == Value.type "list") = true then some (HO.frz { cls := .type "tuple", data := .seq vs.toArray } (.lst (vs.toArray.toList.map toV))) else some (HO.frz { cls := .type "tuple", data := .seq vs.toArray } (.tup (vs.toArray.toList.map toV)))) = _
  rw [if_neg (by decide)]
section
variable {P : Program} {w : World} {K : PySem.W.Frag} {h : Heap} {A : List Addr}
theorem argH_at {b : Addr} {o : Obj} (hb : b ∈ A) (hk : K.lookup b = none) (e : h.get? b = some o) : argH K h A b = hoOf o := by
  unfold argH
  rw [if_pos hb, hk, if_pos (show (none : Option Obj).isNone = true from rfl), e] <;> rfl
theorem of_argH {b : Addr} {u : HO} (q : argH K h A b = some u) : b ∈ A ∧ K.lookup b = none := by
  unfold argH at q
  by_cases hb : b ∈ A
  · rw [if_pos hb] at q
    cases hk : K.lookup b with
    | none => exact ⟨hb, rfl⟩
    | some o =>
      rw [hk, if_neg (by simp)] at q
      cases q
  · rw [if_neg hb] at q
    cases q
/-- what stands tracked -/
theorem argH_is (ar : ∀ a ∈ A, ArgOb h A a) {b : Addr} {u : HO} (q : argH K h A b = some u) : K.lookup b = none ∧ ∃ vs : List Value, vs.length ≤ sizeLine ∧ (∀ u ∈ vs, OkU A u) ∧
    ((h.get? b = some { cls := .type "list", data := .seq vs.toArray } ∧ u = .frz { cls := .type "list", data := .seq vs.toArray } (.lst (vs.map toV))) ∨
     (h.get? b = some { cls := .type "tuple", data := .seq vs.toArray } ∧ u = .frz { cls := .type "tuple", data := .seq vs.toArray } (.tup (vs.map toV)))) := by
  obtain ⟨hb, hk⟩ := of_argH q
  obtain ⟨vs, h1, h2, h3⟩ := ar b hb
  refine ⟨hk, vs, h1, h2, ?_⟩
  rcases h3 with e | e
  · rw [argH_at hb hk e, hoOf_lst] at q
    exact .inl ⟨e, (Option.some.inj q).symm⟩
  · rw [argH_at hb hk e, hoOf_tup] at q
    exact .inr ⟨e, (Option.some.inj q).symm⟩
theorem argH_only (ar : ∀ a ∈ A, ArgOb h A a) : OnlyF (argH K h A) := fun b => by
  cases q : argH K h A b with
  | none => exact .inl rfl
  | some u =>
    obtain ⟨_, vs, _, _, ⟨_, e⟩ | ⟨_, e⟩⟩ := argH_is ar q
    · exact .inr ⟨_, _, by rw [e]⟩
    · exact .inr ⟨_, _, by rw [e]⟩
theorem argH_ok (ar : ∀ a ∈ A, ArgOb h A a) : HOk P w (argH K h A) h := fun b u q => by
  obtain ⟨_, vs, h1, h2, ⟨e, rfl⟩ | ⟨e, rfl⟩⟩ := argH_is ar q
  · exact ⟨e, by rw [List.length_map]; exact h1, vs, _, vals_toV h2, e⟩
  · exact ⟨e, by rw [List.length_map]; exact h1, vs, vals_toV h2, _, e, rfl, _, rfl⟩
theorem seq_inj {c c' : Value} {vs us : List Value} (e : (some { cls := c, data := .seq vs.toArray } : Option Obj) = some { cls := c', data := .seq us.toArray }) : c = c' ∧ vs = us := by
  have e1 := Option.some.inj e
  have e2 : c = c' := congrArg Obj.cls e1
  have e3 : Data.seq vs.toArray = Data.seq us.toArray := congrArg Obj.data e1
  injection e3 with e4
  refine ⟨e2, ?_⟩
  have e5 := congrArg Array.toList e4
  simpa using e5
/-- a list argument -/
theorem argL (KX : K.In h) (ar : ∀ a ∈ A, ArgOb h A a) {a : Addr} {vs : List Value} (ha : a ∈ A) (e : h.get? a = some { cls := .type "list", data := .seq vs.toArray }) : (∀ u ∈ vs, OkU A u) ∧ SqL K (argH K h A) a (vs.map toV) := by
  obtain ⟨us, h1, h2, h3⟩ := ar a ha
  have hu : us = vs := by
    rcases h3 with q | q
    · rw [e] at q
      exact (seq_inj q).2.symm
    · rw [e] at q
      exact absurd (Value.type.inj (seq_inj q).1) (by decide)
  subst hu
  refine ⟨h2, ?_⟩
  cases hk : K.lookup a with
  | none => exact .inl (.inr ⟨_, by rw [argH_at ha hk e, hoOf_lst]⟩)
  | some o =>
    have e2 := KX a o hk
    rw [e] at e2
    obtain rfl := Option.some.inj e2
    exact .inr ⟨_, us.toArray, _, hk, rfl, rfl, rfl, by rw [List.size_toArray]; exact h1, by simpa using vals_toV h2⟩
theorem argT (KX : K.In h) (ar : ∀ a ∈ A, ArgOb h A a) {a : Addr} {vs : List Value} (ha : a ∈ A) (e : h.get? a = some { cls := .type "tuple", data := .seq vs.toArray }) : (∀ u ∈ vs, OkU A u) ∧ SqT K (argH K h A) a (vs.map toV) := by
  obtain ⟨us, h1, h2, h3⟩ := ar a ha
  have hu : us = vs := by
    rcases h3 with q | q
    · rw [e] at q
      exact absurd (Value.type.inj (seq_inj q).1) (by decide)
    · rw [e] at q
      exact (seq_inj q).2.symm
  subst hu
  refine ⟨h2, ?_⟩
  cases hk : K.lookup a with
  | none => exact .inl (.inr ⟨_, by rw [argH_at ha hk e, hoOf_tup]⟩)
  | some o =>
    have e2 := KX a o hk
    rw [e] at e2
    obtain rfl := Option.some.inj e2
    exact .inr ⟨_, us.toArray, _, hk, rfl, rfl, by rw [List.size_toArray]; exact h1, by simpa using vals_toV h2⟩
mutual
theorem dw_one {Pm : Params} (KX : K.In h) (ar : ∀ a ∈ A, ArgOb h A a) : ∀ (d : WData) (v : Value), Well Pm h v d → plW d = true → OkU A v → Dw K (argH K h A) (toV v) d
  | .none, _, x, _, _ => by
    cases x
    exact .non
  | .bool b, _, x, _, _ => by
    cases x
    exact .bl b
  | .int i, _, x, _, _ => by
    cases x
    exact .int i
  | .str s, _, x, _, _ => by
    cases x
    exact .str s
  | .bytes b, _, x, _, _ => by
    cases x
    have z := Dw.byt (K := K) (H := argH K h A) b.toArray
    exact z
  | .list ds, _, x, p, hu => by
    obtain ⟨a, vs, rfl, ho, hall⟩ := well_list x
    obtain ⟨h2, hs⟩ := argL KX ar hu ho
    exact .lst hs (dw_all KX ar ds _ hall p h2)
  | .tuple ds, _, x, p, hu => by
    obtain ⟨a, vs, rfl, ho, hall⟩ := well_tuple x
    obtain ⟨h2, hs⟩ := argT KX ar hu ho
    exact .tup hs (dw_all KX ar ds _ hall p h2)
  | .float _, _, _, p, _ => Bool.noConfusion (show false = true from p)
  | .dict _, _, _, p, _ => Bool.noConfusion (show false = true from p)
  | .bytearray _, _, _, p, _ => Bool.noConfusion (show false = true from p)
  | .set _, _, _, p, _ => Bool.noConfusion (show false = true from p)
  | .frozenset _, _, _, p, _ => Bool.noConfusion (show false = true from p)
  | .obj _ _, _, _, p, _ => Bool.noConfusion (show false = true from p)
theorem dw_all {Pm : Params} (KX : K.In h) (ar : ∀ a ∈ A, ArgOb h A a) : ∀ (ds : List WData) (vs : List Value), WellAll Pm h vs ds → plWs ds = true → (∀ u ∈ vs, OkU A u) → DwAll K (argH K h A) (vs.map toV) ds
  | [], _, x, _, _ => by
    cases x
    exact .nil
  | d :: ds, _, x, p, hu => by
    obtain ⟨v, vs, rfl, x1, x2⟩ := well_cons x
    have q : plW d = true ∧ plWs ds = true := Bool.and_eq_true_iff.mp p
    exact .cons (dw_one KX ar d v x1 q.1 (hu _ (List.mem_cons_self ..))) (dw_all KX ar ds vs x2 q.2 fun u m => hu u (List.mem_cons_of_mem _ m))
end
end
/-! ### the call -/
theorem spec_call {P : Program} {w : World} {K : PySem.W.Frag} {mg mb : Str → Option Value} {CX : CXT} {k : Nat} {fa : Addr} {fd : FuncData} {ps : List Str} {sp : Sp} {s₁ : Shared} {vals : List Value} {ds : List WData} {R : PySem.W.WRecords} {cl : Str → Option Addr} {d0 : WData}
    (KX : K.In s₁.heap) (hns : s₁.heap.Ns mainGlobals mg) (hb : s₁.heap.Ns builtinsNs mb) (hbb : ∀ x : Str, x ≠ "__name__" → mb x = bootBuiltins x) (hlim : s₁.heap.NoLimit) (hg : s₁.gens = #[])
    (hwl : WellAll w.params s₁.heap vals ds) (hpl : plWs ds = true) (hwt : ∀ d ∈ ds, d.weight ≤ 1048576) (hr : Room k callerA)
    (F : ∀ base : Heap, K.In base → base.Ns mainGlobals mg → FnOk P w K mg base CX k fa fd ps sp) (hbind : ∀ (s : Shared) (us : List Value), us.length = ps.length → BindsTo s fd ⟨us, []⟩ (ps.zip us)) (hlen : ds.length = ps.length)
    (hsp : ∀ (H : Hp) (xs : List V), OnlyF H → DwAll K H xs ds → sp xs H (fun v H' => Dw K H' v d0) fun _ _ _ => False)
    (hCX : ∀ H e s', CX [] H s₁ (fun _ _ _ => False) e s' → False) :
    codeAny (model P w) callerA (.call (.ref fa) ⟨vals, []⟩) (fun r s' => ∃ u as, r = .ok (.ret u) ∧ ReadsW R cl s'.heap u d0 as ∧ OldK s₁.heap s'.heap ∧ s'.os = s₁.os ∧ AllBare s'.gens) s₁ := by
  obtain ⟨A, ho, ar⟩ := area_all ds vals hwl hpl hwt
  have hO : OnlyF (argH K s₁.heap A) := argH_only ar
  have hok : HOk P w (argH K s₁.heap A) s₁.heap := argH_ok ar
  have hS := dw_all KX ar ds vals hwl hpl ho
  have hV := vals_toV ho
  have hK : ∀ b u, argH K s₁.heap A b = some u → K.lookup b = none := fun b u q => (argH_is ar q).1
  have noA : ∀ {b : Addr} {o : Obj} {es : Array DictEntry} {ep : Nat}, s₁.heap.get? b = some o → o.data = .dict es ep → argH K s₁.heap A b = none := fun {b o es ep} e d => by
    cases q : argH K s₁.heap A b with
    | none => rfl
    | some u =>
      obtain ⟨_, vs, _, _, ⟨e2, _⟩ | ⟨e2, _⟩⟩ := argH_is ar q
      · rw [e2] at e
        cases e
        have d' : Data.seq vs.toArray _ = Data.dict es ep := d
        cases d'
      · rw [e2] at e
        cases e
        have d' : Data.seq vs.toArray _ = Data.dict es ep := d
        cases d'
  generalize argH K s₁.heap A = H at hO hok hS hK noA
  have base_of : ∀ {b : Addr} {o : Obj}, s₁.heap.get? b = some o → H b = none → (hidT s₁.heap H).get? b = some o := fun e n => hidT_get e n
  have nsK : ∀ {b : Addr} {m : Str → Option Value}, s₁.heap.Ns b m → (hidT s₁.heap H).Ns b m := fun {b m} ⟨o, es, ep, e, d, r⟩ => ⟨o, es, ep, base_of e (noA e d), d, r⟩
  have nK : ∀ b o, K.lookup b = some o → H b = none := fun b o e => by
    cases q : H b with
    | none => rfl
    | some u =>
      rw [hK b u q] at e
      cases e
  have hKb : K.In (hidT s₁.heap H) := fun b o e => base_of (KX b o e) (nK b o e)
  have hM : Mod K mg (hidT s₁.heap H) := ⟨hKb, nsK hns, ⟨mb, nsK hb, hbb⟩, let ⟨mc, h1, h2⟩ := hlim; ⟨mc, nsK h1, h2⟩⟩
  have e0 : Env0 P w K mg (hidT s₁.heap H) callerA [] s₁ H := ⟨rfl, hM, fun b o e => of_hidT e, Nat.le_of_eq (hidT_size _ _), trivial, fun b hb => absurd (show b ∈ ([] : List Addr) from hb) (by simp), hok, .of_eq hg⟩
  have hl : vals.length = ps.length := by rw [wellAll_len hwl]; exact hlen
  refine codeAny_mono ((F _ hKb (nsK hns)).run callerA [] s₁ H ⟨vals, []⟩ vals (vals.map toV) _ _ hr e0 (hbind s₁ vals hl) hV (hsp H _ hO hS)) fun r s' x => ?_
  cases r with
  | error e => exact (hCX H e s' x).elim
  | ok fl =>
    cases fl with
    | next => exact False.elim x
    | brk => exact False.elim x
    | cont => exact False.elim x
    | ret u =>
      obtain ⟨v, H', os, bare, un, hok', r', q⟩ := x
      have kept : ∀ b o, s₁.heap.get? b = some o → s'.heap.get? b = some o := fun b o e => by
        cases q2 : H b with
        | none => exact un.keep b o e q2 (by intro z; exact absurd (show b ∈ ([] : List Addr) from z) (by simp)) (by simp)
        | some u2 =>
          rcases hO b with z | ⟨ob, u3, z⟩
          · rw [q2] at z
            cases z
          · have z2 := un.frzs b ob _ z
            obtain ⟨e1, _⟩ := hok b _ z
            obtain ⟨e2, _⟩ := hok' b _ z2
            rw [e] at e1
            cases e1
            exact e2
      have KX' : K.In s'.heap := fun b o e => kept b o (KX b o e)
      obtain ⟨as, hrd⟩ := Dw.reads (R := R) (cl := cl) hok' KX' d0 v u q r'
      exact ⟨u, as, rfl, hrd, OldK.of_keep kept, os, bare⟩
/-! ### the row -/
theorem layable_weight {ds : List WData} (h : WData.layableAll ds = true) : ∀ d ∈ ds, d.weight ≤ 1048576 := fun d hd =>
  (PySem.W.layableW_iff.mp (List.all_eq_true.mp h d hd)).2.2
theorem encAll_len : ∀ (cs : List Codec) (a : Codec.denoteAll cs), (Codec.encAll cs a).length = cs.length
  | [], _ => rfl
  | c :: cs, a => by
    show (Codec.encAll cs a.2).length + 1 = cs.length + 1
    rw [encAll_len cs a.2]
/-- the goal that k_headS leaves (case hc), from the promise of the row's def: whatever the arguments that the codecs let and the row asks for, the def gives what stands for enc (f ..) -/
theorem walk_spec {r : OpenSpec} {k : Nat} {q : Program} {loose : List Str} {XP : (Str → Option Value) → Heap → Prop} {YP : World → Heap → Prop} {d : DefRec} {K : Params → PySem.W.Frag} {CX : World → CXT} {ps : List Str} {sp : World → Sp}
    (hwell : r.wellSaid = true) (hdf : d.params.defaults = []) (hlen : r.args.length = ps.length) (hr : Room k callerA)
    (hY : ∀ (w : World) (h : Heap), YP w h → (K w.params).In h)
    (F : ∀ (w : World) (mg : Str → Option Value) (fa : Addr) (h : Heap), YP w h → (K w.params).In h → h.Ns mainGlobals mg → mg d.name = some (.ref fa) →
      ∃ fd : FuncData, (∀ (s : Shared) (us : List Value), us.length = ps.length → BindsTo s fd ⟨us, []⟩ (ps.zip us)) ∧
        ∀ base : Heap, (K w.params).In base → base.Ns mainGlobals mg → FnOk r.prog w (K w.params) mg base (CX w) k fa fd ps (sp w))
    (hsp : ∀ (w : World) (H : Hp) (xs : List V) (a : Codec.denoteAll r.args), OnlyF H → Codec.withinAll r.args a = true → Codec.app r.args r.asked a = true → DwAll (K w.params) H xs (Codec.encAll r.args a) →
      sp w xs H (fun v H' => Dw (K w.params) H' v (r.ret.enc (Codec.app r.args r.f a))) fun _ _ _ => False)
    (hCX : ∀ (w : World) (H : Hp) (s : Shared) (e : Value) (s' : Shared), CX w [] H s (fun _ _ _ => False) e s' → False) :
    PySem.W.WalkOS q loose XP YP r d [] (fun f vs => PySem.call f vs) := by
  intro w s_0 s₁ mg mb G Y fa o pm cd doc dV kV ho hd hcd hD hmg hg args vals as hpre hlay hrd hwl hlo
  obtain ⟨a, e1, e2⟩ := PySem.W.os_pre_some hpre
  obtain ⟨e3, hwi⟩ := Codec.encAll_of_decAll r.args args a e1
  subst e3
  have KX := hY w _ Y
  obtain ⟨fd, hb, hF⟩ := F w mg fa _ Y KX G.T.g hmg
  refine PySem.W.enter_call (codeAny_mono (spec_call (R := []) (cl := classAt s_0.heap) (d0 := r.ret.enc (Codec.app r.args r.f a)) KX G.T.g G.T.b G.T.builtins G.T.nolimit hg hwl (pl_encAll _ _) (layable_weight hlay) hr hF hb (by rw [encAll_len]; exact hlen)
    (fun H xs hO hS => hsp w H xs a hO hwi e2 hS) fun H e s' => hCX w H s₁ e s') fun r' s' hq => ?_)
  obtain ⟨u, as', rfl, h1, h2, h3, h4⟩ := hq
  exact ⟨.inl ⟨u, _, as', rfl, fun _ => rfl, h1, (OpenSpec.post_iff hwell hwi _ _).mpr rfl, fun z => Bool.noConfusion (show false = true from z)⟩, h2, h3, h4⟩
/-- the same where the promise hangs on the written part alone -/
theorem walk_specK {r : OpenSpec} {k : Nat} {q : Program} {loose : List Str} {XP : (Str → Option Value) → Heap → Prop} {YP : World → Heap → Prop} {d : DefRec} {K : Params → PySem.W.Frag} {CX : CXT} {ps : List Str} {sp : PySem.W.Frag → Sp}
    (hwell : r.wellSaid = true) (hdf : d.params.defaults = []) (hlen : r.args.length = ps.length) (hr : Room k callerA)
    (hY : ∀ (w : World) (h : Heap), YP w h → (K w.params).In h)
    (F : ∀ (w : World) (mg : Str → Option Value) (fa : Addr) (h : Heap), YP w h → (K w.params).In h → h.Ns mainGlobals mg → mg d.name = some (.ref fa) →
      ∃ fd : FuncData, (∀ (s : Shared) (us : List Value), us.length = ps.length → BindsTo s fd ⟨us, []⟩ (ps.zip us)) ∧
        ∀ base : Heap, (K w.params).In base → base.Ns mainGlobals mg → FnOk r.prog w (K w.params) mg base CX k fa fd ps (sp (K w.params)))
    (hsp : ∀ (K : PySem.W.Frag) (H : Hp) (xs : List V) (a : Codec.denoteAll r.args), OnlyF H → Codec.withinAll r.args a = true → Codec.app r.args r.asked a = true → DwAll K H xs (Codec.encAll r.args a) →
      sp K xs H (fun v H' => Dw K H' v (r.ret.enc (Codec.app r.args r.f a))) fun _ _ _ => False)
    (hCX : ∀ (H : Hp) (s : Shared) (e : Value) (s' : Shared), CX [] H s (fun _ _ _ => False) e s' → False) :
    PySem.W.WalkOS q loose XP YP r d [] (fun f vs => PySem.call f vs) :=
  walk_spec (K := K) (CX := fun _ => CX) (sp := fun w => sp (K w.params)) hwell hdf hlen hr hY F (fun w H xs a h1 h2 h3 h4 => hsp (K w.params) H xs a h1 h2 h3 h4) fun _ H s e s' => hCX H s e s'
end L2
end
section
set_option Elab.async false
set_option linter.all false
set_option maxRecDepth 100000
set_option maxHeartbeats 2000000
namespace Sd
open PySem PySem.Spec PyProof.Rows L2
/-! ### heaps -/
/-- all that was tracked, but for what stands at D, is as it was -/
def SameX (D : Addr) (H H' : Hp) : Prop := ∀ b o, b ≠ D → H b = some o → H' b = some o
theorem SameX.of {D : Addr} {H H' : Hp} (s : Same H H') : SameX D H H' := fun b o _ e => s b o e
theorem SameX.upd {D : Addr} {H : Hp} {o : HO} : SameX D H (upd H D o) := fun b o' hb e => by rw [upd_ne hb]; exact e
theorem same_upd {H1 H : Hp} {D : Addr} {o : HO} (hD : H1 D = none) (s : Same H1 H) : Same H1 (L2.upd H D o) := fun b o' e => by
  rw [upd_ne (ne_of_none e hD)]; exact s b o' e
theorem same_new {H : Hp} {p : Addr} {o : HO} (hp : H p = none) : Same H (L2.upd H p o) := same_upd hp (Same.refl H)
theorem paired_mono {α β : Type} {F G : α → β → Prop} {l : List α} {m : List β} (h : Paired F l m) (k : ∀ a b, F a b → G a b) : Paired G l m := Paired.mapP h k
theorem paired_snoc {α β : Type} {F : α → β → Prop} {a : α} {b : β} (r : F a b) : ∀ {l : List α} {m : List β}, Paired F l m → Paired F (l ++ [a]) (m ++ [b])
  | _, _, .nil => .cons r .nil
  | _, _, .cons q t => .cons q (paired_snoc r t)
theorem paired_app {α β : Type} {F : α → β → Prop} : ∀ {l l' : List α} {m m' : List β}, Paired F l m → Paired F l' m' → Paired F (l ++ l') (m ++ m')
  | _, _, _, _, .nil, h => h
  | _, _, _, _, .cons q t, h => .cons q (paired_app t h)
theorem paired_len {α β : Type} {F : α → β → Prop} : ∀ {l : List α} {m : List β}, Paired F l m → l.length = m.length
  | _, _, .nil => rfl
  | _, _, .cons _ t => congrArg Nat.succ (paired_len t)
theorem paired_eq {α β : Type} {f : β → α} : ∀ {l : List α} {m : List β}, Paired (fun a b => a = f b) l m → l = m.map f
  | _, _, .nil => rfl
  | _, _, .cons q t => by rw [List.map_cons, ← q, ← paired_eq t]
/-- the numbers of a list that is read -/
abbrev Ints (K : PySem.W.Frag) (H : Hp) (a : Addr) (ns : List Int) : Prop := SqL K H a (ns.map V.int)
/-- rows of numbers: a list of lists -/
def Rows (K : PySem.W.Frag) (H : Hp) (l : Addr) (rows : List (List Int)) : Prop :=
  ∃ as : List Addr, SqL K H l (as.map V.ref) ∧ Paired (fun a r => Ints K H a r) as rows
theorem Rows.same {K : PySem.W.Frag} {H H' : Hp} {l : Addr} {rows : List (List Int)} (s : Same H H') (h : Rows K H l rows) : Rows K H' l rows := by
  obtain ⟨as, h1, h2⟩ := h
  exact ⟨as, s.seq h1, paired_mono h2 fun a r q => s.seq q⟩
/-- as Rows, the list itself a new one -/
def RowsN (K : PySem.W.Frag) (H : Hp) (l : Addr) (rows : List (List Int)) : Prop :=
  ∃ as : List Addr, H l = some (.lst (as.map V.ref)) ∧ Paired (fun a r => Ints K H a r) as rows
theorem RowsN.rows {K : PySem.W.Frag} {H : Hp} {l : Addr} {rows : List (List Int)} (h : RowsN K H l rows) : Rows K H l rows := by
  obtain ⟨as, h1, h2⟩ := h
  exact ⟨as, SqL.of h1, h2⟩
theorem RowsN.same {K : PySem.W.Frag} {H H' : Hp} {l : Addr} {rows : List (List Int)} (s : Same H H') (h : RowsN K H l rows) : RowsN K H' l rows := by
  obtain ⟨as, h1, h2⟩ := h
  exact ⟨as, s _ _ h1, paired_mono h2 fun a r q => s.seq q⟩
/-- a new list of numbers -/
abbrev LI (H : Hp) (a : Addr) (ns : List Int) : Prop := H a = some (.lst (ns.map V.int))
/-- new rows: a new list of new lists -/
def RowsT (H : Hp) (l : Addr) (rows : List (List Int)) : Prop :=
  ∃ as : List Addr, H l = some (.lst (as.map V.ref)) ∧ Paired (fun a r => LI H a r) as rows
theorem RowsT.same {H H' : Hp} {l : Addr} {rows : List (List Int)} (s : Same H H') (h : RowsT H l rows) : RowsT H' l rows := by
  obtain ⟨as, h1, h2⟩ := h
  exact ⟨as, s _ _ h1, paired_mono h2 fun a r q => s _ _ q⟩
theorem RowsT.rows {K : PySem.W.Frag} {H : Hp} {l : Addr} {rows : List (List Int)} (h : RowsT H l rows) : Rows K H l rows := by
  obtain ⟨as, h1, h2⟩ := h
  exact ⟨as, SqL.of h1, paired_mono h2 fun a r q => SqL.of q⟩
theorem paired_refs {F : V → List Int → Prop} {G : Addr → List Int → Prop} (k : ∀ v r, F v r → ∃ a, v = V.ref a ∧ G a r) : ∀ {ys : List V} {rows : List (List Int)}, Paired F ys rows → ∃ as : List Addr, ys = as.map V.ref ∧ Paired G as rows
  | _, _, .nil => ⟨[], rfl, .nil⟩
  | _, _, .cons q t => by
    obtain ⟨a, rfl, g⟩ := k _ _ q
    obtain ⟨as, rfl, h⟩ := paired_refs k t
    exact ⟨a :: as, rfl, .cons g h⟩
/-! ### a comprehension, by what each turn gives -/
theorem range_filterMap_snoc {β : Type} (out : Nat → Option β) (i : Nat) : (List.range (i + 1)).filterMap out = (List.range i).filterMap out ++ (match out i with | some b => [b] | none => []) := by
  rw [List.range_succ, List.filterMap_append]
  cases e : out i <;> simp [List.filterMap_cons, e]
theorem lc_gen {J : It} {n : Nat} {item : Nat → V → Hp → Prop} {β : Type} {g : TG} {tt : TT} {te : TE} {vs : List Nat} {σ : L2.St} {H1 : Hp} {D : Addr} {Qd : Hp → Prop}
    (rel : Hp → V → β → Prop) (out : Nat → Option β) (hD : H1 D = none) (hn : n ≤ sizeLine)
    (hgo : ∀ i H, Same H1 H → i < n → J.go i H) (hst : ∀ i H, Same H1 H → i = n → J.stop i H) (hy : ∀ i H x H', Same H1 H → J.yld i H x H' → Same H H' ∧ item i x H')
    (hrel : ∀ H H' y b, SameX D H H' → rel H y b → rel H' y b)
    (hs : ∀ i x H (Ky : V → Hp → Prop) (Kn : Hp → Prop), i < n → item i x H → Same H1 H → (∃ ys, H D = some (.lst ys)) → (∀ y H4 b, out i = some b → Same H H4 → rel H4 y b → Ky y H4) → (∀ H4, out i = none → Same H H4 → Kn H4) →
      g x (wipe σ vs) H fun σ2 H2 => wipe σ2 vs = wipe σ vs ∧ tt σ2 H2 fun b H3 => if b = true then te σ2 H3 Ky else Kn H3)
    (hd : ∀ H ys, Same H1 H → H D = some (.lst ys) → Paired (rel H) ys ((List.range n).filterMap out) → Qd H) :
    ∃ W : Nat → Nat → Hp → Prop, (∃ m, W 0 m (L2.upd H1 D (.lst []))) ∧ ∀ i m H, W i m H →
      (J.stop i H ∧ Qd H) ∨ (J.go i H ∧ ∃ Nx : Hp → Prop, (∀ H', Nx H' → ∃ m', m' < m ∧ W (i + 1) m' H') ∧ ∀ x H', J.yld i H x H' → g x (wipe σ vs) H' fun σ2 H2 => wipe σ2 vs = wipe σ vs ∧ tt σ2 H2 fun b H3 =>
        if b = true then te σ2 H3 fun y H4 => ∃ acc, H4 D = some (.lst acc) ∧ acc.length < sizeLine ∧ Nx (L2.upd H4 D (.lst (acc ++ [y]))) else Nx H3) := by
  let Pv : Nat → Hp → Prop := fun i H => Same H1 H ∧ ∃ ys, H D = some (.lst ys) ∧ ys.length ≤ i ∧ Paired (rel H) ys ((List.range i).filterMap out)
  refine ⟨fun i m H => m = n - i ∧ i ≤ n ∧ Pv i H, ⟨n, by simp, Nat.zero_le _, same_new hD, [], upd_same, Nat.zero_le _, .nil⟩, ?_⟩
  rintro i m H ⟨rfl, hi, s, ys, hys, hl, p⟩
  by_cases hlt : i < n
  · refine .inr ⟨hgo i H s hlt, Pv (i + 1), fun H' p' => ⟨n - (i + 1), by omega, rfl, hlt, p'⟩, fun x H' y => ?_⟩
    obtain ⟨s', hx⟩ := hy i H x _ s y
    refine hs i x _ _ _ hlt hx (s.trans s') ⟨ys, s' _ _ hys⟩ (fun y H4 b ho s4 r4 => ?_) fun H4 ho s4 => ?_
    · have h4 := s4 _ _ (s' _ _ hys)
      refine ⟨ys, h4, by omega, same_upd hD ((s.trans s').trans s4), ys ++ [y], upd_same, by rw [List.length_append, List.length_singleton]; omega, ?_⟩
      rw [range_filterMap_snoc, ho]
      exact paired_snoc (hrel _ _ _ _ SameX.upd r4) (paired_mono p fun a b q => hrel _ _ _ _ SameX.upd (hrel _ _ _ _ (SameX.of (s'.trans s4)) q))
    · refine ⟨(s.trans s').trans s4, ys, s4 _ _ (s' _ _ hys), by omega, ?_⟩
      rw [range_filterMap_snoc, ho, List.append_nil]
      exact paired_mono p fun a b q => hrel _ _ _ _ (SameX.of (s'.trans s4)) q
  · have e : i = n := by omega
    subst e
    exact .inl ⟨hst i H s rfl, hd H ys s hys p⟩
theorem filterMap_get {α β : Type} (f : α → Option β) : ∀ l : List α, (List.range l.length).filterMap (fun i => (l[i]?).bind f) = l.filterMap f
  | [] => rfl
  | a :: l => by
    rw [List.length_cons, List.range_succ_eq_map, List.filterMap_cons, List.filterMap_map, List.filterMap_cons]
    have e : (List.range l.length).filterMap ((fun i => ((a :: l)[i]?).bind f) ∘ Nat.succ) = l.filterMap f := by
      rw [← filterMap_get f l]
      rfl
    rw [e]
    cases h : f a <;> simp [h]
/-- over a list that is read: what stands there is told by bs -/
theorem lc_l {K : PySem.W.Frag} {a : Addr} {xs : List V} {α β : Type} {bs : List α} {g : TG} {tt : TT} {te : TE} {vs : List Nat} {σ : L2.St} {H1 : Hp} {D : Addr} {Qd : Hp → Prop}
    (ri : V → α → Prop) (rel : Hp → V → β → Prop) (f : α → Option β) (hD : H1 D = none) (hn : bs.length ≤ sizeLine) (hx : SqL K H1 a xs) (hp : Paired ri xs bs)
    (hrel : ∀ H H' y b, SameX D H H' → rel H y b → rel H' y b)
    (hs : ∀ x c H (Ky : V → Hp → Prop) (Kn : Hp → Prop), c ∈ bs → ri x c → Same H1 H → (∃ ys, H D = some (.lst ys)) → (∀ y H4 b, f c = some b → Same H H4 → rel H4 y b → Ky y H4) → (∀ H4, f c = none → Same H H4 → Kn H4) →
      g x (wipe σ vs) H fun σ2 H2 => wipe σ2 vs = wipe σ vs ∧ tt σ2 H2 fun b H3 => if b = true then te σ2 H3 Ky else Kn H3)
    (hd : ∀ H ys, Same H1 H → H D = some (.lst ys) → Paired (rel H) ys (bs.filterMap f) → Qd H) :
    ∃ W : Nat → Nat → Hp → Prop, (∃ m, W 0 m (L2.upd H1 D (.lst []))) ∧ ∀ i m H, W i m H →
      ((Itl K a).stop i H ∧ Qd H) ∨ ((Itl K a).go i H ∧ ∃ Nx : Hp → Prop, (∀ H', Nx H' → ∃ m', m' < m ∧ W (i + 1) m' H') ∧ ∀ x H', (Itl K a).yld i H x H' → g x (wipe σ vs) H' fun σ2 H2 => wipe σ2 vs = wipe σ vs ∧ tt σ2 H2 fun b H3 =>
        if b = true then te σ2 H3 fun y H4 => ∃ acc, H4 D = some (.lst acc) ∧ acc.length < sizeLine ∧ Nx (L2.upd H4 D (.lst (acc ++ [y]))) else Nx H3) := by
  have el := paired_len hp
  refine lc_gen (n := bs.length) (item := fun i x _ => xs[i]? = some x) rel (fun i => (bs[i]?).bind f) hD hn (fun i H s hi => ?_) (fun i H s hi => ⟨xs, s.seq hx, by omega⟩) (fun i H x H' s y => ⟨y.1 ▸ Same.refl _, y.2 xs (s.seq hx)⟩) hrel (fun i x H Ky Kn hi hxi s hDs k1 k2 => ?_) fun H ys s h1 h2 => hd H ys s h1 ?_
  · have hi' : i < xs.length := by omega
    exact ⟨xs, xs[i], s.seq hx, by simp [hi']⟩
  · obtain ⟨c, hc, hr⟩ := paired_get hp hxi
    have e : ∀ o, f c = o → (bs[i]?).bind f = o := fun o e => by rw [hc]; exact e
    exact hs x c H Ky Kn (List.mem_of_getElem? hc) hr s hDs (fun y H4 b hb => k1 y H4 b (e _ hb)) fun H4 hb => k2 H4 (e _ hb)
  · rw [filterMap_get] at h2; exact h2
/-- over lo, lo + c, .. (n of them) -/
theorem lc_c {lo c : Int} {n : Nat} {β : Type} {g : TG} {tt : TT} {te : TE} {vs : List Nat} {σ : L2.St} {H1 : Hp} {D : Addr} {Qd : Hp → Prop}
    (rel : Hp → V → β → Prop) (f : Nat → β) (hD : H1 D = none) (hn : n ≤ sizeLine)
    (hrel : ∀ H H' y b, SameX D H H' → rel H y b → rel H' y b)
    (hs : ∀ i H (Ky : V → Hp → Prop) (Kn : Hp → Prop), i < n → Same H1 H → (∃ ys, H D = some (.lst ys)) → (∀ y H4, Same H H4 → rel H4 y (f i) → Ky y H4) →
      g (.int (lo + (i : Nat) * c)) (wipe σ vs) H fun σ2 H2 => wipe σ2 vs = wipe σ vs ∧ tt σ2 H2 fun b H3 => if b = true then te σ2 H3 Ky else Kn H3)
    (hd : ∀ H ys, Same H1 H → H D = some (.lst ys) → Paired (rel H) ys ((List.range n).map f) → Qd H) :
    ∃ W : Nat → Nat → Hp → Prop, (∃ m, W 0 m (L2.upd H1 D (.lst []))) ∧ ∀ i m H, W i m H →
      ((Itc lo c n).stop i H ∧ Qd H) ∨ ((Itc lo c n).go i H ∧ ∃ Nx : Hp → Prop, (∀ H', Nx H' → ∃ m', m' < m ∧ W (i + 1) m' H') ∧ ∀ x H', (Itc lo c n).yld i H x H' → g x (wipe σ vs) H' fun σ2 H2 => wipe σ2 vs = wipe σ vs ∧ tt σ2 H2 fun b H3 =>
        if b = true then te σ2 H3 fun y H4 => ∃ acc, H4 D = some (.lst acc) ∧ acc.length < sizeLine ∧ Nx (L2.upd H4 D (.lst (acc ++ [y]))) else Nx H3) := by
  refine lc_gen (n := n) (item := fun i x _ => x = V.int (lo + (i : Nat) * c)) rel (fun i => some (f i)) hD hn (fun i H s hi => hi) (fun i H s hi => Nat.le_of_eq hi.symm) (fun i H x H' s y => ⟨y.1 ▸ Same.refl _, y.2⟩) hrel (fun i x H Ky Kn hi hxi s hDs k1 k2 => ?_) fun H ys s h1 h2 => hd H ys s h1 ?_
  · subst hxi
    exact hs i H Ky Kn hi s hDs fun y H4 s4 r4 => k1 y H4 _ rfl s4 r4
  · rw [← List.filterMap_eq_map]; exact h2
/-- over lo, lo + 1, .. (n of them) -/
theorem lc_r {lo : Int} {n : Nat} {β : Type} {g : TG} {tt : TT} {te : TE} {vs : List Nat} {σ : L2.St} {H1 : Hp} {D : Addr} {Qd : Hp → Prop}
    (rel : Hp → V → β → Prop) (f : Nat → β) (hD : H1 D = none) (hn : n ≤ sizeLine)
    (hrel : ∀ H H' y b, SameX D H H' → rel H y b → rel H' y b)
    (hs : ∀ i H (Ky : V → Hp → Prop) (Kn : Hp → Prop), i < n → Same H1 H → (∃ ys, H D = some (.lst ys)) → (∀ y H4, Same H H4 → rel H4 y (f i) → Ky y H4) →
      g (.int (lo + i)) (wipe σ vs) H fun σ2 H2 => wipe σ2 vs = wipe σ vs ∧ tt σ2 H2 fun b H3 => if b = true then te σ2 H3 Ky else Kn H3)
    (hd : ∀ H ys, Same H1 H → H D = some (.lst ys) → Paired (rel H) ys ((List.range n).map f) → Qd H) :
    ∃ W : Nat → Nat → Hp → Prop, (∃ m, W 0 m (L2.upd H1 D (.lst []))) ∧ ∀ i m H, W i m H →
      ((Itr lo n).stop i H ∧ Qd H) ∨ ((Itr lo n).go i H ∧ ∃ Nx : Hp → Prop, (∀ H', Nx H' → ∃ m', m' < m ∧ W (i + 1) m' H') ∧ ∀ x H', (Itr lo n).yld i H x H' → g x (wipe σ vs) H' fun σ2 H2 => wipe σ2 vs = wipe σ vs ∧ tt σ2 H2 fun b H3 =>
        if b = true then te σ2 H3 fun y H4 => ∃ acc, H4 D = some (.lst acc) ∧ acc.length < sizeLine ∧ Nx (L2.upd H4 D (.lst (acc ++ [y]))) else Nx H3) := by
  refine lc_gen (n := n) (item := fun i x _ => x = V.int (lo + i)) rel (fun i => some (f i)) hD hn (fun i H s hi => hi) (fun i H s hi => Nat.le_of_eq hi.symm) (fun i H x H' s y => ⟨y.1 ▸ Same.refl _, y.2⟩) hrel (fun i x H Ky Kn hi hxi s hDs k1 k2 => ?_) fun H ys s h1 h2 => hd H ys s h1 ?_
  · subst hxi
    exact hs i H Ky Kn hi s hDs fun y H4 s4 r4 => k1 y H4 _ rfl s4 r4
  · rw [← List.filterMap_eq_map]; exact h2
/-- over zip of two lists that are read -/
theorem lc_z {K : PySem.W.Frag} {a b : Addr} {xs ys : List V} {α γ β : Type} {bs : List α} {cs : List γ} {g : TG} {tt : TT} {te : TE} {vs : List Nat} {σ : L2.St} {H1 : Hp} {D : Addr} {Qd : Hp → Prop}
    (ri : V → α → Prop) (rj : V → γ → Prop) (rel : Hp → V → β → Prop) (f : α × γ → β) (hD : H1 D = none) (hn : bs.length ≤ sizeLine) (hbc : bs.length = cs.length) (hx : SqL K H1 a xs) (hy : SqL K H1 b ys) (hp : Paired ri xs bs) (hq : Paired rj ys cs)
    (hrel : ∀ H H' y b, SameX D H H' → rel H y b → rel H' y b)
    (hs : ∀ T x y c e H (Ky : V → Hp → Prop) (Kn : Hp → Prop), (c, e) ∈ bs.zip cs → ri x c → rj y e → Same H1 H → H T = some (.tup [x, y]) → (∀ y H4, Same H H4 → rel H4 y (f (c, e)) → Ky y H4) →
      g (.ref T) (wipe σ vs) H fun σ2 H2 => wipe σ2 vs = wipe σ vs ∧ tt σ2 H2 fun b H3 => if b = true then te σ2 H3 Ky else Kn H3)
    (hd : ∀ H ys, Same H1 H → H D = some (.lst ys) → Paired (rel H) ys ((bs.zip cs).map f) → Qd H) :
    ∃ W : Nat → Nat → Hp → Prop, (∃ m, W 0 m (L2.upd H1 D (.lst []))) ∧ ∀ i m H, W i m H →
      ((Itz K a b).stop i H ∧ Qd H) ∨ ((Itz K a b).go i H ∧ ∃ Nx : Hp → Prop, (∀ H', Nx H' → ∃ m', m' < m ∧ W (i + 1) m' H') ∧ ∀ x H', (Itz K a b).yld i H x H' → g x (wipe σ vs) H' fun σ2 H2 => wipe σ2 vs = wipe σ vs ∧ tt σ2 H2 fun b H3 =>
        if b = true then te σ2 H3 fun y H4 => ∃ acc, H4 D = some (.lst acc) ∧ acc.length < sizeLine ∧ Nx (L2.upd H4 D (.lst (acc ++ [y]))) else Nx H3) := by
  have el := paired_len hp
  have em := paired_len hq
  have ez : (bs.zip cs).length = bs.length := by rw [List.length_zip]; omega
  refine lc_gen (n := bs.length) (item := fun i v H => ∃ T x y, v = V.ref T ∧ H T = some (.tup [x, y]) ∧ xs[i]? = some x ∧ ys[i]? = some y) rel (fun i => ((bs.zip cs)[i]?).bind fun z => some (f z)) hD hn (fun i H s hi => ?_) (fun i H s hi => ⟨xs, ys, s.seq hx, s.seq hy, .inl (by omega)⟩) (fun i H x H' s y => ?_) hrel (fun i x H Ky Kn hi hxi s hDs k1 k2 => ?_) fun H ys s h1 h2 => hd H ys s h1 ?_
  · have h1 : i < xs.length := by omega
    have h2 : i < ys.length := by omega
    exact ⟨xs, ys, xs[i], ys[i], s.seq hx, s.seq hy, by simp [h1], by simp [h2]⟩
  · obtain ⟨T, u, v, rfl, hT, rfl, h1, h2⟩ := y
    exact ⟨same_new hT, T, u, v, rfl, upd_same, h1 xs (s.seq hx), h2 ys (s.seq hy)⟩
  · obtain ⟨T, u, v, rfl, hT, h1, h2⟩ := hxi
    obtain ⟨c, hc, hr⟩ := paired_get hp h1
    obtain ⟨e, he, hr'⟩ := paired_get hq h2
    have hz : (bs.zip cs)[i]? = some (c, e) := List.getElem?_zip_eq_some.mpr ⟨hc, he⟩
    exact hs T u v c e H Ky Kn (List.mem_of_getElem? hz) hr hr' s hT fun y H4 s4 r4 => k1 y H4 _ (by rw [hz]; rfl) s4 r4
  · rw [← ez, filterMap_get, ← List.filterMap_eq_map] at *
    exact h2
theorem relK {β : Type} {D : Addr} (f : β → V) : ∀ (H H' : Hp) (y : V) (b : β), SameX D H H' → y = f b → y = f b := fun _ _ _ _ _ e => e
theorem paired_map_int : ∀ ns : List Int, Paired (fun (v : V) (z : Int) => v = V.int z) (ns.map V.int) ns
  | [] => .nil
  | _ :: r => .cons rfl (paired_map_int r)
end Sd
end

section
set_option Elab.async false
set_option linter.all false
set_option maxHeartbeats 2000000
/-! Points in lowest terms, and their order. -/
namespace Co
open Sf64 Se02
def gall (x : List Int) (q : Nat) : Nat := x.foldl (fun (g : Nat) (z : Int) => Nat.gcd g z.natAbs) q
theorem gall_scale (c : Nat) : ∀ (x : List Int) (q : Nat), gall (x.map fun z => z * (c : Int)) (q * c) = gall x q * c
  | [], q => rfl
  | z :: x, q => by
    have e : Nat.gcd (q * c) (z * (c : Int)).natAbs = Nat.gcd q z.natAbs * c := by
      rw [Int.natAbs_mul, Int.natAbs_natCast, Nat.gcd_mul_right]
    show gall (x.map fun z => z * (c : Int)) (Nat.gcd (q * c) (z * (c : Int)).natAbs) = gall x (Nat.gcd q z.natAbs) * c
    rw [e, gall_scale c x]
theorem gall_dvd : ∀ (x : List Int) (q : Nat), gall x q ∣ q ∧ ∀ z ∈ x, gall x q ∣ z.natAbs
  | [], q => ⟨Nat.dvd_refl _, by simp⟩
  | z :: x, q => by
    obtain ⟨h1, h2⟩ := gall_dvd x (Nat.gcd q z.natAbs)
    refine ⟨Nat.dvd_trans h1 (Nat.gcd_dvd_left ..), fun y hy => ?_⟩
    rcases List.mem_cons.mp hy with rfl | hy
    · exact Nat.dvd_trans h1 (Nat.gcd_dvd_right ..)
    · exact h2 y hy
theorem dvd_gall {g : Nat} : ∀ {x : List Int} {q : Nat}, g ∣ q → (∀ z ∈ x, g ∣ z.natAbs) → g ∣ gall x q
  | [], q, h, _ => h
  | z :: x, q, h, k => dvd_gall (x := x) (Nat.dvd_gcd h (k z (List.mem_cons_self ..))) fun y hy => k y (List.mem_cons_of_mem _ hy)
theorem gall_pos {x : List Int} {q : Nat} (h : 0 < q) : 0 < gall x q := Nat.pos_of_dvd_of_pos (gall_dvd x q).1 h
/-- a point of d numbers in lowest terms -/
structure Low (d : Nat) (p : Pt) : Prop where
  len : p.x.length = d
  pos : 0 < p.q
  low : gall p.x p.q = 1
/-- two that are one -/
theorem low_one {d : Nat} {p r : Pt} (hp : Low d p) (hr : Low d r) (h : p.x.map (fun z => z * (r.q : Int)) = r.x.map fun z => z * (p.q : Int)) : p = r := by
  have e1 := gall_scale r.q p.x p.q
  have e2 := gall_scale p.q r.x r.q
  rw [hp.low, Nat.one_mul] at e1
  rw [hr.low, Nat.one_mul] at e2
  rw [h, Nat.mul_comm] at e1
  have eq : r.q = p.q := e1.symm.trans e2
  obtain ⟨px, pq⟩ := p
  obtain ⟨rx, rq⟩ := r
  have eq : rq = pq := eq
  subst eq
  congr 1
  have hq : ((rq : Nat) : Int) ≠ 0 := by have := hp.pos; have : 0 < rq := this; omega
  have h : px.map (fun z => z * (rq : Int)) = rx.map fun z => z * (rq : Int) := h
  exact (List.map_inj_right fun a b e => Int.eq_of_mul_eq_mul_right hq e).mp h
theorem gall_sign (c : Prop) [Decidable c] : ∀ (x : List Int) (q : Nat), gall (x.map fun (z : Int) => if c then -z else z) q = gall x q
  | [], q => rfl
  | z :: x, q => by
    have e : (if c then -z else z).natAbs = z.natAbs := by split <;> simp
    show gall (x.map fun (z : Int) => if c then -z else z) (Nat.gcd q (if c then -z else z).natAbs) = gall x (Nat.gcd q z.natAbs)
    rw [e, gall_sign c x]
theorem lowest_def (x : List Int) (q : Int) : lowest x q = ⟨x.map fun (z : Int) => (if q < 0 then -z else z) / ((gall x q.natAbs : Nat) : Int), q.natAbs / gall x q.natAbs⟩ := rfl
theorem lowest_low {x : List Int} {q : Int} (hq : q ≠ 0) : Low x.length (lowest x q) := by
  have hn : 0 < q.natAbs := by omega
  have hg : 0 < gall x q.natAbs := gall_pos hn
  obtain ⟨d1, d2⟩ := gall_dvd x q.natAbs
  rw [lowest_def]
  refine ⟨by rw [List.length_map], Nat.div_pos (Nat.le_of_dvd hn d1) hg, ?_⟩
  show gall (x.map fun (z : Int) => (if q < 0 then -z else z) / ((gall x q.natAbs : Nat) : Int)) (q.natAbs / gall x q.natAbs) = 1
  have s := gall_scale (gall x q.natAbs) (x.map fun (z : Int) => (if q < 0 then -z else z) / ((gall x q.natAbs : Nat) : Int)) (q.natAbs / gall x q.natAbs)
  rw [Nat.div_mul_cancel d1, List.map_map] at s
  have e : x.map ((fun z => z * ((gall x q.natAbs : Nat) : Int)) ∘ fun (z : Int) => (if q < 0 then -z else z) / ((gall x q.natAbs : Nat) : Int)) = x.map fun (z : Int) => if q < 0 then -z else z := by
    refine List.map_congr_left fun z hz => ?_
    show (if q < 0 then -z else z) / ((gall x q.natAbs : Nat) : Int) * ((gall x q.natAbs : Nat) : Int) = _
    refine Int.ediv_mul_cancel ?_
    have := Int.ofNat_dvd_left.mpr (d2 z hz)
    split
    · exact Int.dvd_neg.mpr this
    · exact this
  rw [e, gall_sign] at s
  have s' : gall x q.natAbs * 1 = gall x q.natAbs * gall (x.map fun (z : Int) => (if q < 0 then -z else z) / ((gall x q.natAbs : Nat) : Int)) (q.natAbs / gall x q.natAbs) := by rw [Nat.mul_one, Nat.mul_comm]; exact s
  exact (Nat.eq_of_mul_eq_mul_left hg s').symm
/-- what a point in lowest terms is worth -/
theorem lowest_val {x : List Int} {q : Int} (hq : q ≠ 0) : (lowest x q).x.map (fun z => z * q) = x.map fun z => z * ((lowest x q).q : Int) := by
  have hn : 0 < q.natAbs := by omega
  have hg : 0 < gall x q.natAbs := gall_pos hn
  obtain ⟨d1, d2⟩ := gall_dvd x q.natAbs
  rw [lowest_def]
  show (x.map fun (z : Int) => (if q < 0 then -z else z) / ((gall x q.natAbs : Nat) : Int)).map (fun z => z * q) = x.map fun z => z * ((q.natAbs / gall x q.natAbs : Nat) : Int)
  rw [List.map_map]
  refine List.map_congr_left fun z hz => ?_
  show (if q < 0 then -z else z) / ((gall x q.natAbs : Nat) : Int) * q = z * ((q.natAbs / gall x q.natAbs : Nat) : Int)
  obtain ⟨Q, hQ⟩ := d1
  obtain ⟨Z, hZ⟩ := Int.ofNat_dvd_left.mpr (d2 z hz)
  generalize gall x q.natAbs = g at *
  have e1 : q.natAbs / g = Q := by rw [hQ]; exact Nat.mul_div_cancel_left Q hg
  have hg' : ((g : Nat) : Int) ≠ 0 := by omega
  rw [e1]
  split
  · rename_i hneg
    have e2 : -z / (g : Int) = -Z := by rw [hZ, ← Int.mul_neg]; exact Int.mul_ediv_cancel_left _ hg'
    have e3 : q = -((g : Int) * (Q : Int)) := by
      have : ((q.natAbs : Nat) : Int) = (g : Int) * (Q : Int) := by rw [hQ]; exact Int.natCast_mul g Q
      omega
    rw [e2, e3, hZ]
    grind
  · have e2 : z / (g : Int) = Z := by rw [hZ]; exact Int.mul_ediv_cancel_left _ hg'
    have e3 : q = (g : Int) * (Q : Int) := by
      have : ((q.natAbs : Nat) : Int) = (g : Int) * (Q : Int) := by rw [hQ]; exact Int.natCast_mul g Q
      omega
    rw [e2, e3, hZ]
    grind
theorem map_cross {a b : List Int} {u v : Int} (hl : a.length = b.length) (h : ∀ i (h1 : i < a.length) (h2 : i < b.length), a[i] * u = b[i] * v) : a.map (fun z => z * u) = b.map fun z => z * v := by
  refine List.ext_getElem (by rw [List.length_map, List.length_map, hl]) fun i h1 h2 => ?_
  rw [List.getElem_map, List.getElem_map]
  exact h i _ _
theorem cross_get {a b : List Int} {u v : Int} (h : a.map (fun z => z * u) = b.map fun z => z * v) : a.length = b.length ∧ ∀ i (h1 : i < a.length) (h2 : i < b.length), a[i] * u = b[i] * v := by
  have hl : a.length = b.length := by
    have := congrArg List.length h
    rw [List.length_map, List.length_map] at this
    exact this
  refine ⟨hl, fun i h1 h2 => ?_⟩
  have e : (a.map fun z => z * u)[i]? = (b.map fun z => z * v)[i]? := by rw [h]
  rw [List.getElem?_map, List.getElem?_map, List.getElem?_eq_getElem h1, List.getElem?_eq_getElem h2] at e
  exact Option.some.inj e
/-- the same point, told in two ways, is one in lowest terms -/
theorem lowest_same {x y : List Int} {q r : Int} (hq : q ≠ 0) (hr : r ≠ 0) (h : x.map (fun z => z * r) = y.map fun z => z * q) : lowest x q = lowest y r := by
  obtain ⟨hl, hc⟩ := cross_get h
  have l1 := lowest_low (x := x) hq
  have l2 := lowest_low (x := y) hr
  rw [hl] at l1
  obtain ⟨m1, v1⟩ := cross_get (lowest_val (x := x) hq)
  obtain ⟨m2, v2⟩ := cross_get (lowest_val (x := y) hr)
  refine low_one l1 l2 (map_cross (by omega) fun i h1 h2 => ?_)
  have a1 := v1 i h1 (by omega)
  have a2 := v2 i h2 (by omega)
  have a3 := hc i (by omega) (by omega)
  refine Int.eq_of_mul_eq_mul_right (a := q * r) (Int.mul_ne_zero hq hr) ?_
  generalize (lowest x q).x[i] = px at *
  generalize (lowest y r).x[i] = py at *
  generalize ((lowest x q).q : Int) = Qx at *
  generalize ((lowest y r).q : Int) = Qy at *
  grind
/-- a point that is in lowest terms already -/
theorem lowest_self {d : Nat} {p : Pt} (h : Low d p) : lowest p.x (p.q : Int) = p := by
  have hq : (p.q : Int) ≠ 0 := by have := h.pos; omega
  have l := lowest_low (x := p.x) hq
  rw [h.len] at l
  exact low_one l h (lowest_val hq)
/-! ### the order -/
theorem lesser_total : ∀ (l m : List Int) (p q : Nat), (lesser l m p q || lesser m l q p) = true
  | [], m, p, q => by simp [lesser]
  | a :: l, [], p, q => by simp [lesser]
  | a :: l, b :: m, p, q => by
    have ih := lesser_total l m p q
    simp only [lesser, Bool.or_eq_true, Bool.and_eq_true, decide_eq_true_eq, beq_iff_eq] at ih ⊢
    rcases Int.lt_trichotomy (a * (q : Int)) (b * (p : Int)) with h | h | h
    · exact .inl (.inl h)
    · rcases ih with i | i
      · exact .inl (.inr ⟨h, i⟩)
      · exact .inr (.inr ⟨h.symm, i⟩)
    · exact .inr (.inl h)
theorem cross_lt_trans {a b c : Int} {p q r : Nat} (hq : 0 < q) (hp : 0 < p) (hr : 0 < r) (h1 : a * (q : Int) ≤ b * (p : Int)) (h2 : b * (r : Int) ≤ c * (q : Int)) : a * (r : Int) ≤ c * (p : Int) ∧ (a * (r : Int) = c * (p : Int) → a * (q : Int) = b * (p : Int) ∧ b * (r : Int) = c * (q : Int)) := by
  have k1 := Int.mul_le_mul_of_nonneg_right h1 (Int.natCast_nonneg r)
  have k2 := Int.mul_le_mul_of_nonneg_right h2 (Int.natCast_nonneg p)
  have e1 : a * (q : Int) * (r : Int) = a * (r : Int) * (q : Int) := by grind
  have e2 : b * (p : Int) * (r : Int) = b * (r : Int) * (p : Int) := by grind
  have e3 : c * (q : Int) * (p : Int) = c * (p : Int) * (q : Int) := by grind
  have hq' : (0 : Int) < (q : Int) := by omega
  have hp' : (0 : Int) < (p : Int) := by omega
  have hr' : (0 : Int) < (r : Int) := by omega
  refine ⟨Int.le_of_mul_le_mul_right (by omega) hq', fun e => ?_⟩
  rw [e] at e1
  have g1 : a * (q : Int) * (r : Int) = b * (p : Int) * (r : Int) := by omega
  have g2 : b * (r : Int) * (p : Int) = c * (q : Int) * (p : Int) := by omega
  exact ⟨Int.eq_of_mul_eq_mul_right (by omega) g1, Int.eq_of_mul_eq_mul_right (by omega) g2⟩
theorem lesser_trans : ∀ (l m n : List Int) (p q r : Nat), 0 < p → 0 < q → 0 < r → l.length = m.length → m.length = n.length → lesser l m p q = true → lesser m n q r = true → lesser l n p r = true
  | [], m, n, p, q, r, _, _, _, _, _, _, _ => by simp [lesser]
  | a :: l, b :: m, [], p, q, r, _, _, _, _, h, _, _ => by simp at h
  | a :: l, b :: m, c :: n, p, q, r, hp, hq, hr, e1, e2, h1, h2 => by
    have ih := lesser_trans l m n p q r hp hq hr (by simpa using e1) (by simpa using e2)
    simp only [lesser, Bool.or_eq_true, Bool.and_eq_true, decide_eq_true_eq, beq_iff_eq] at h1 h2 ⊢
    obtain ⟨k1, k2⟩ := cross_lt_trans (a := a) (b := b) (c := c) hq hp hr (by omega) (by omega)
    by_cases e : a * (r : Int) = c * (p : Int)
    · obtain ⟨g1, g2⟩ := k2 e
      right
      refine ⟨e, ih ?_ ?_⟩
      · rcases h1 with h | h
        · omega
        · exact h.2
      · rcases h2 with h | h
        · omega
        · exact h.2
    · left
      omega
theorem lesser_anti : ∀ (l m : List Int) (p q : Nat), l.length = m.length → lesser l m p q = true → lesser m l q p = true → l.map (fun z => z * (q : Int)) = m.map fun z => z * (p : Int)
  | [], [], p, q, _, _, _ => rfl
  | a :: l, b :: m, p, q, e, h1, h2 => by
    have ih := lesser_anti l m p q (by simpa using e)
    simp only [lesser, Bool.or_eq_true, Bool.and_eq_true, decide_eq_true_eq, beq_iff_eq] at h1 h2
    have e1 : a * (q : Int) = b * (p : Int) := by omega
    rw [List.map_cons, List.map_cons, e1, ih ?_ ?_]
    · rcases h1 with h | h
      · omega
      · exact h.2
    · rcases h2 with h | h
      · omega
      · exact h.2
/-- the order of points -/
def le (p r : Pt) : Bool := lesser p.x r.x p.q r.q
def good (d : Nat) (p : Pt) : Bool := decide (p.x.length = d ∧ 0 < p.q)
/-- an order of all points that is theirs where they are good -/
def le' (d : Nat) (p r : Pt) : Bool := if (good d p && good d r) = true then le p r else !good d r
theorem le'_total (d : Nat) (p r : Pt) : (le' d p r || le' d r p) = true := by
  unfold le'
  cases good d p <;> cases good d r <;> simp [le, lesser_total]
theorem le'_trans (d : Nat) (a b c : Pt) (h1 : le' d a b = true) (h2 : le' d b c = true) : le' d a c = true := by
  unfold le' at *
  cases ga : good d a <;> cases gb : good d b <;> cases gc : good d c <;> simp [ga, gb, gc] at h1 h2 ⊢
  simp only [good, decide_eq_true_eq] at ga gb gc
  exact lesser_trans _ _ _ _ _ _ ga.2 gb.2 gc.2 (by omega) (by omega) h1 h2
theorem nodup_eraseDups [BEq α] [LawfulBEq α] : ∀ (n : Nat) (l : List α), l.length ≤ n → l.eraseDups.Nodup
  | 0, [], _ => by simp
  | n + 1, [], _ => by simp
  | n + 1, a :: l, h => by
    rw [List.eraseDups_cons, List.nodup_cons]
    refine ⟨fun hm => ?_, nodup_eraseDups n _ ?_⟩
    · rw [List.mem_eraseDups, List.mem_filter] at hm
      simp at hm
    · have := List.length_filter_le (fun b => !b == a) l
      simp only [List.length_cons] at h
      omega
theorem only_low {d : Nat} {A : List Row} {p : Pt} (h : only d A = some p) : Low d p := by
  unfold only at h
  simp only at h
  split at h
  · cases h
  · rename_i hq
    cases h
    have := lowest_low (x := (List.range d).map fun (k : Nat) => det d (A.map fun (r : Row) => r.a.set k r.b)) hq
    rw [List.length_map, List.length_range] at this
    exact this
/-- **the corners, by who they are and how they stand** -/
theorem corners_by {d : Nat} {A : List Row} {L : List Pt} (hm : ∀ p, p ∈ L ↔ p ∈ (choose d A).filterMap (only d) ∧ meets A p = true) (hn : L.Nodup) (hp : L.Pairwise fun p r => lesser p.x r.x p.q r.q = true) : cornersOf d A = L := by
  have low : ∀ p, p ∈ (choose d A).filterMap (only d) → Low d p := fun p h => by
    obtain ⟨S, _, hS⟩ := List.mem_filterMap.mp h
    exact only_low hS
  unfold cornersOf
  generalize hM : (((choose d A).filterMap (only d)).filter (meets A)).eraseDups = M
  have mM : ∀ p, p ∈ M ↔ p ∈ L := fun p => by
    rw [← hM, List.mem_eraseDups, List.mem_filter, hm p]
  have nM : M.Nodup := by rw [← hM]; exact nodup_eraseDups _ _ (Nat.le_refl _)
  have lowL : ∀ p ∈ L, Low d p := fun p h => low p ((hm p).mp h).1
  have gd : ∀ p ∈ L, good d p = true := fun p h => decide_eq_true ⟨(lowL p h).len, (lowL p h).pos⟩
  have cong := List.map_mergeSort (r := fun (p r : Pt) => lesser p.x r.x p.q r.q) (s := le' d) (f := id) (l := M) fun a ha b hb => by
    show lesser a.x b.x a.q b.q = le' d a b
    unfold le'
    rw [gd a ((mM a).mp ha), gd b ((mM b).mp hb)]
    rfl
  rw [List.map_id, List.map_id] at cong
  rw [cong]
  refine List.Perm.eq_of_pairwise (le := fun a b => le' d a b = true) (fun a b ha hb h1 h2 => ?_) (List.pairwise_mergeSort (le'_trans d) (le'_total d) M) ?_ ?_
  · have ha' : a ∈ L := (mM a).mp ((List.mergeSort_perm M (le' d)).mem_iff.mp ha)
    have la := lowL a ha'
    have lb := lowL b hb
    unfold le' at h1 h2
    rw [gd a ha', gd b hb] at h1 h2
    exact low_one la lb (lesser_anti _ _ _ _ (by rw [la.len, lb.len]) h1 h2)
  · refine hp.imp_of_mem fun {a b} ha hb h => ?_
    unfold le'
    rw [gd a ha, gd b hb]
    exact h
  · exact (List.mergeSort_perm M (le' d)).trans ((List.perm_ext_iff_of_nodup nM hn).mpr mM)
end Co
end

section
set_option Elab.async false
set_option linter.all false
set_option maxHeartbeats 2000000
namespace Lo
open Sf64 Se02
theorem gcd_fmod (a b : Int) : Nat.gcd b.natAbs (a.fmod b).natAbs = Nat.gcd a.natAbs b.natAbs := by
  have e : a.fmod b + b * a.fdiv b = a := Int.fmod_add_mul_fdiv a b
  refine Nat.dvd_antisymm (Nat.dvd_gcd ?_ (Nat.gcd_dvd_left ..)) (Nat.dvd_gcd (Nat.gcd_dvd_right ..) ?_)
  · rw [← Int.ofNat_dvd_left]
    have h1 : ((Nat.gcd b.natAbs (a.fmod b).natAbs : Nat) : Int) ∣ b := Int.ofNat_dvd_left.mpr (Nat.gcd_dvd_left ..)
    have h2 : ((Nat.gcd b.natAbs (a.fmod b).natAbs : Nat) : Int) ∣ a.fmod b := Int.ofNat_dvd_left.mpr (Nat.gcd_dvd_right ..)
    have := Int.dvd_add h2 (Int.dvd_mul_of_dvd_left (c := a.fdiv b) h1)
    rw [e] at this
    exact this
  · rw [← Int.ofNat_dvd_left]
    have h1 : ((Nat.gcd a.natAbs b.natAbs : Nat) : Int) ∣ a := Int.ofNat_dvd_left.mpr (Nat.gcd_dvd_left ..)
    have h2 : ((Nat.gcd a.natAbs b.natAbs : Nat) : Int) ∣ b := Int.ofNat_dvd_left.mpr (Nat.gcd_dvd_right ..)
    have e2 : a.fmod b = a - b * a.fdiv b := by omega
    rw [e2]
    exact Int.dvd_sub h1 (Int.dvd_mul_of_dvd_left h2)
theorem fmod_less {a b : Int} (h : b ≠ 0) : (a.fmod b).natAbs < b.natAbs := by
  rw [Int.fmod_eq_emod]
  have h1 := Int.emod_nonneg a h
  have h2 := Int.emod_lt a h
  split
  · omega
  · rename_i hb
    have : ¬ 0 ≤ b := fun z => hb (.inl z)
    have : ¬ b ∣ a := fun z => hb (.inr z)
    have : a % b ≠ 0 := fun z => this (Int.dvd_of_emod_eq_zero z)
    omega
def gz (l : List Int) (g : Nat) : Nat := l.foldl (fun (g : Nat) (z : Int) => Nat.gcd g z.natAbs) g
theorem gz_from : ∀ (l : List Int) (g : Nat), gz l g = Nat.gcd g (gz l 0)
  | [], g => by show g = Nat.gcd g 0; rw [Nat.gcd_zero_right]
  | z :: l, g => by
    show gz l (Nat.gcd g z.natAbs) = Nat.gcd g (gz l (Nat.gcd 0 z.natAbs))
    rw [gz_from l (Nat.gcd g z.natAbs), gz_from l (Nat.gcd 0 z.natAbs), Nat.gcd_zero_left, Nat.gcd_assoc]
theorem gz_row (x : List Int) (q : Int) : gz (x ++ [q]) 0 = gz x q.natAbs := by
  unfold gz
  rw [List.foldl_append]
  show Nat.gcd (gz x 0) q.natAbs = gz x q.natAbs
  rw [gz_from x q.natAbs, Nat.gcd_comm]
theorem gz_dvd : ∀ (l : List Int) (g : Nat), gz l g ∣ g ∧ ∀ z ∈ l, gz l g ∣ z.natAbs
  | [], g => ⟨Nat.dvd_refl _, by simp⟩
  | z :: l, g => by
    have ih := gz_dvd l (Nat.gcd g z.natAbs)
    refine ⟨Nat.dvd_trans ih.1 (Nat.gcd_dvd_left ..), fun y hy => ?_⟩
    rcases List.mem_cons.mp hy with rfl | hy
    · exact Nat.dvd_trans ih.1 (Nat.gcd_dvd_right ..)
    · exact ih.2 y hy
theorem fdiv_pos {z g : Int} (hg : 0 < g) : z.fdiv g = z / g := Int.fdiv_eq_ediv_of_nonneg z (by omega)
theorem fdiv_neg' {z g : Int} (hg : 0 < g) (hd : g ∣ z) : z.fdiv (-g) = (-z) / g := by
  obtain ⟨k, rfl⟩ := hd
  have e : g * k = -k * -g := by rw [Int.neg_mul_neg, Int.mul_comm]
  have e2 : -(g * k) = g * (-k) := by rw [Int.mul_neg]
  rw [e2, Int.mul_ediv_cancel_left _ (by omega), e, Int.mul_fdiv_cancel _ (by omega)]
/-- the program's lowest terms: the row divided by what divides it, with the last one's sign -/
theorem lowest_row {x : List Int} {q : Int} (hq : q ≠ 0) : (x ++ [q]).map (fun z => z.fdiv (if q < 0 then -((gz (x ++ [q]) 0 : Nat) : Int) else ((gz (x ++ [q]) 0 : Nat) : Int))) = told (lowest x q) := by
  have hd := gz_dvd x q.natAbs
  rw [gz_row]
  have hp : 0 < gz x q.natAbs := Nat.pos_of_dvd_of_pos hd.1 (by omega)
  unfold told lowest
  show _ = (x.map fun z => (if q < 0 then -z else z) / ((gz x q.natAbs : Nat) : Int)) ++ [((q.natAbs / gz x q.natAbs : Nat) : Int)]
  rw [List.map_append]
  congr 1
  · refine List.map_congr_left fun z hz => ?_
    by_cases h : q < 0
    · rw [if_pos h, if_pos h, fdiv_neg' (by omega) (Int.ofNat_dvd_left.mpr (hd.2 z hz))]
    · rw [if_neg h, if_neg h, fdiv_pos (by omega)]
  · rw [List.map_cons, List.map_nil]
    congr 1
    rw [Int.natCast_ediv]
    by_cases h : q < 0
    · rw [if_pos h, fdiv_neg' (by omega) (Int.ofNat_dvd_left.mpr hd.1)]
      congr 1
      omega
    · rw [if_neg h, fdiv_pos (by omega)]
      congr 1
      omega
theorem gz_le {x : List Int} {q : Int} (hq : q ≠ 0) : 0 < gz (x ++ [q]) 0 ∧ gz (x ++ [q]) 0 ≤ q.natAbs := by
  rw [gz_row]
  have hd := gz_dvd x q.natAbs
  have hp : 0 < q.natAbs := by omega
  exact ⟨Nat.pos_of_dvd_of_pos hd.1 hp, Nat.le_of_dvd hp hd.1⟩
end Lo
end

section
set_option Elab.async false
set_option linter.all false
set_option maxHeartbeats 4000000
namespace Dt
open Sf64 Se02
/-- a square's determinant, along its first column -/
def detC : Nat → List (List Int) → Int
  | 0, _ => 1
  | n + 1, sq => ((List.range sq.length).map fun (i : Nat) => (if i % 2 = 0 then (sq.getD i []).getD 0 0 * detC n ((sq.eraseIdx i).map List.tail) else -((sq.getD i []).getD 0 0 * detC n ((sq.eraseIdx i).map List.tail)))).sum
theorem len1 {α : Type} {l : List α} (h : l.length = 1) : ∃ a, l = [a] := by
  match l, h with
  | [a], _ => exact ⟨a, rfl⟩
theorem len2 {α : Type} {l : List α} (h : l.length = 2) : ∃ a b, l = [a, b] := by
  match l, h with
  | [a, b], _ => exact ⟨a, b, rfl⟩
theorem len3 {α : Type} {l : List α} (h : l.length = 3) : ∃ a b c, l = [a, b, c] := by
  match l, h with
  | [a, b, c], _ => exact ⟨a, b, c, rfl⟩
theorem detC_det {n : Nat} {sq : List (List Int)} (hn : n ≤ 3) (hl : sq.length = n) (hr : ∀ r ∈ sq, r.length = n) : detC n sq = det n sq := by
  match n, hn with
  | 0, _ => rfl
  | 1, _ =>
    obtain ⟨r, rfl⟩ := len1 hl
    obtain ⟨a, rfl⟩ := len1 (hr r (by simp))
    simp [detC, det, List.range_succ]
  | 2, _ =>
    obtain ⟨r, s, rfl⟩ := len2 hl
    obtain ⟨a, b, rfl⟩ := len2 (hr r (by simp))
    obtain ⟨c, d, rfl⟩ := len2 (hr s (by simp))
    simp [detC, det, List.range_succ]
    grind
  | 3, _ =>
    obtain ⟨r, s, t, rfl⟩ := len3 hl
    obtain ⟨a, b, c, rfl⟩ := len3 (hr r (by simp))
    obtain ⟨d, e, f, rfl⟩ := len3 (hr s (by simp))
    obtain ⟨g, h, i, rfl⟩ := len3 (hr t (by simp))
    simp [detC, det, List.range_succ]
    grind
/-- every choice of so many, as the program makes them -/
def grow (many : Nat) (found : List (List Row)) (row : Row) : List (List Row) := found ++ (found.filter fun p => decide (p.length < many)).map fun p => p ++ [row]
def chosen (rows : List Row) (many : Nat) : List (List Row) := (rows.foldl (grow many) [[]]).filter fun p => decide (p.length = many)
theorem sub_snoc {x l : List Row} {r : Row} : x.Sublist (l ++ [r]) ↔ x.Sublist l ∨ ∃ y, y.Sublist l ∧ x = y ++ [r] := by
  rw [List.sublist_append_iff]
  constructor
  · rintro ⟨u, v, rfl, h1, h2⟩
    rcases List.sublist_cons_iff.mp h2 with h | ⟨y, rfl, h⟩
    · rw [List.sublist_nil.mp h, List.append_nil]; exact .inl h1
    · rw [List.sublist_nil.mp h]; exact .inr ⟨u, h1, rfl⟩
  · rintro (h | ⟨y, h, rfl⟩)
    · exact ⟨x, [], by simp, h, by simp⟩
    · exact ⟨y, [r], rfl, h, List.Sublist.refl _⟩
theorem mem_grown {many : Nat} {x : List Row} : ∀ (l pre : List Row) (found : List (List Row)), (∀ y, y ∈ found ↔ y.Sublist pre ∧ y.length ≤ many) → (x ∈ l.foldl (grow many) found ↔ x.Sublist (pre ++ l) ∧ x.length ≤ many)
  | [], pre, found, h => by rw [List.foldl_nil, List.append_nil]; exact h x
  | r :: l, pre, found, h => by
    rw [List.foldl_cons, mem_grown l (pre ++ [r]) (grow many found r) fun y => ?_, List.append_assoc]
    · rfl
    · unfold grow
      rw [List.mem_append, List.mem_map, h y, sub_snoc]
      constructor
      · rintro (⟨h1, h2⟩ | ⟨z, hz, rfl⟩)
        · exact ⟨.inl h1, h2⟩
        · obtain ⟨h1, h2⟩ := List.mem_filter.mp hz
          have h3 := of_decide_eq_true h2
          refine ⟨.inr ⟨z, ((h z).mp h1).1, rfl⟩, ?_⟩
          rw [List.length_append]
          show z.length + 1 ≤ many
          omega
      · rintro ⟨h1 | ⟨z, hz, rfl⟩, h2⟩
        · exact .inl ⟨h1, h2⟩
        · rw [List.length_append] at h2
          have h2 : z.length + 1 ≤ many := h2
          exact .inr ⟨z, List.mem_filter.mpr ⟨(h z).mpr ⟨hz, by omega⟩, decide_eq_true (by omega)⟩, rfl⟩
theorem mem_chosen {rows x : List Row} {many : Nat} : x ∈ chosen rows many ↔ x.Sublist rows ∧ x.length = many := by
  unfold chosen
  rw [List.mem_filter, mem_grown rows [] [[]] fun y => ?_]
  · rw [List.nil_append, decide_eq_true_eq]
    constructor
    · rintro ⟨⟨h1, h2⟩, h3⟩; exact ⟨h1, h3⟩
    · rintro ⟨h1, h3⟩; exact ⟨⟨h1, by omega⟩, h3⟩
  · rw [List.mem_singleton, List.sublist_nil]
    constructor
    · rintro rfl; exact ⟨rfl, Nat.zero_le _⟩
    · exact fun h => h.1
theorem mem_choose : ∀ {k : Nat} {l x : List Row}, x ∈ choose k l ↔ x.Sublist l ∧ x.length = k
  | 0, l, x => by
    have e0 : choose 0 l = [[]] := by cases l <;> rfl
    rw [e0, List.mem_singleton]
    constructor
    · rintro rfl; exact ⟨List.nil_sublist _, rfl⟩
    · exact fun h => List.eq_nil_of_length_eq_zero h.2
  | k + 1, [], x => by
    show x ∈ [] ↔ _
    rw [List.sublist_nil]
    constructor
    · intro h; cases h
    · rintro ⟨rfl, h⟩; simp at h
  | k + 1, r :: l, x => by
    show x ∈ ((choose k l).map fun m => r :: m) ++ choose (k + 1) l ↔ _
    rw [List.mem_append, List.mem_map, mem_choose (k := k + 1) (l := l)]
    constructor
    · rintro (⟨y, hy, rfl⟩ | ⟨h1, h2⟩)
      · obtain ⟨h1, h2⟩ := mem_choose.mp hy
        exact ⟨h1.cons_cons r, by rw [List.length_cons, h2]⟩
      · exact ⟨h1.cons r, h2⟩
    · rintro ⟨h1, h2⟩
      rcases List.sublist_cons_iff.mp h1 with h | ⟨y, rfl, h⟩
      · exact .inr ⟨h, h2⟩
      · exact .inl ⟨y, mem_choose.mpr ⟨h, by simpa using h2⟩, rfl⟩
theorem chosen_choose {rows x : List Row} {many : Nat} : x ∈ chosen rows many ↔ x ∈ choose many rows := by
  rw [mem_chosen, mem_choose]
/-- the point that chosen sides fix, as the program finds it -/
def cross (d : Nat) (A : List Row) : Option Pt :=
  if detC d (A.map fun r => r.a) = 0 then none else some (lowest ((List.range d).map fun k => detC d (A.map fun r => r.a.set k r.b)) (detC d (A.map fun r => r.a)))
theorem cross_only {d : Nat} {A : List Row} (hd : d ≤ 3) (hl : A.length = d) (hr : ∀ r ∈ A, r.a.length = d) : cross d A = only d A := by
  have e1 : detC d (A.map fun r => r.a) = det d (A.map fun r => r.a) := detC_det hd (by rw [List.length_map, hl]) fun r h => by
    obtain ⟨s, hs, rfl⟩ := List.mem_map.mp h
    exact hr s hs
  have e2 : ((List.range d).map fun k => detC d (A.map fun r => r.a.set k r.b)) = (List.range d).map fun k => det d (A.map fun r => r.a.set k r.b) :=
    List.map_congr_left fun k _ => detC_det hd (by rw [List.length_map, hl]) fun r h => by
      obtain ⟨s, hs, rfl⟩ := List.mem_map.mp h
      rw [List.length_set]
      exact hr s hs
  unfold cross only
  rw [e1, e2]
/-- the list of corners as the program gathers it -/
def gather (d : Nat) (A : List Row) (found : List Pt) (C : List Row) : List Pt :=
  match cross d C with
  | none => found
  | some p => if p ∉ found ∧ meets A p = true then found ++ [p] else found
theorem gather_inv {d : Nat} {A : List Row} : ∀ (Cs : List (List Row)) (found : List Pt), found.Nodup → (Cs.foldl (gather d A) found).Nodup ∧ ∀ p, p ∈ Cs.foldl (gather d A) found ↔ p ∈ found ∨ (p ∈ Cs.filterMap (cross d) ∧ meets A p = true)
  | [], found, h => ⟨h, fun p => by simp⟩
  | C :: Cs, found, h => by
    rw [List.foldl_cons, List.filterMap_cons]
    cases e : cross d C with
    | none =>
      have eg : gather d A found C = found := by unfold gather; rw [e]
      rw [eg]
      exact gather_inv Cs found h
    | some p =>
      have eg : gather d A found C = if p ∉ found ∧ meets A p = true then found ++ [p] else found := by unfold gather; rw [e]
      rw [eg]
      simp only
      by_cases hc : p ∉ found ∧ meets A p = true
      · rw [if_pos hc]
        have hn : (found ++ [p]).Nodup := by
          rw [List.nodup_append]
          refine ⟨h, by simp, fun a ha b hb => ?_⟩
          rw [List.mem_singleton.mp hb]
          rintro rfl
          exact hc.1 ha
        obtain ⟨i1, i2⟩ := gather_inv Cs (found ++ [p]) hn
        refine ⟨i1, fun q => ?_⟩
        rw [i2 q, List.mem_append, List.mem_singleton, List.mem_cons]
        constructor
        · rintro ((h1 | rfl) | ⟨h1, h2⟩)
          · exact .inl h1
          · exact .inr ⟨.inl rfl, hc.2⟩
          · exact .inr ⟨.inr h1, h2⟩
        · rintro (h1 | ⟨rfl | h1, h2⟩)
          · exact .inl (.inl h1)
          · exact .inl (.inr rfl)
          · exact .inr ⟨h1, h2⟩
      · rw [if_neg hc]
        obtain ⟨i1, i2⟩ := gather_inv Cs found h
        refine ⟨i1, fun q => ?_⟩
        rw [i2 q, List.mem_cons]
        constructor
        · rintro (h1 | ⟨h1, h2⟩)
          · exact .inl h1
          · exact .inr ⟨.inr h1, h2⟩
        · rintro (h1 | ⟨rfl | h1, h2⟩)
          · exact .inl h1
          · by_cases hq : q ∈ found
            · exact .inl hq
            · exact absurd ⟨hq, h2⟩ hc
          · exact .inr ⟨h1, h2⟩
def found (d : Nat) (A : List Row) : List Pt := (chosen A d).foldl (gather d A) []
theorem found_mem {d : Nat} {A : List Row} (hd : d ≤ 3) (hr : ∀ r ∈ A, r.a.length = d) : ∀ p, p ∈ found d A ↔ p ∈ (choose d A).filterMap (only d) ∧ meets A p = true := fun p => by
  have key : p ∈ (chosen A d).filterMap (cross d) ↔ p ∈ (choose d A).filterMap (only d) := by
    rw [List.mem_filterMap, List.mem_filterMap]
    constructor
    · rintro ⟨C, hC, e⟩
      obtain ⟨h1, h2⟩ := mem_chosen.mp hC
      rw [cross_only hd h2 fun r h => hr r (h1.subset h)] at e
      exact ⟨C, chosen_choose.mp hC, e⟩
    · rintro ⟨C, hC, e⟩
      obtain ⟨h1, h2⟩ := mem_choose.mp hC
      rw [← cross_only hd h2 fun r h => hr r (h1.subset h)] at e
      exact ⟨C, chosen_choose.mpr hC, e⟩
  have := (gather_inv (d := d) (A := A) (chosen A d) [] (by simp)).2 p
  unfold found
  rw [this, key]
  simp
theorem found_nodup (d : Nat) (A : List Row) : (found d A).Nodup := (gather_inv (d := d) (A := A) (chosen A d) [] (by simp)).1
/-- all that the points are divided by, multiplied -/
def shared (L : List Pt) : Int := L.foldl (fun (s : Int) (p : Pt) => s * (p.q : Int)) 1
theorem shared_from : ∀ (L : List Pt) (s : Int), L.foldl (fun (s : Int) (p : Pt) => s * (p.q : Int)) s = s * shared L
  | [], s => by show s = s * 1; rw [Int.mul_one]
  | p :: L, s => by
    unfold shared
    rw [List.foldl_cons, List.foldl_cons, shared_from L (s * (p.q : Int)), shared_from L (1 * (p.q : Int)), Int.one_mul, Int.mul_assoc]
theorem shared_cons (p : Pt) (L : List Pt) : shared (p :: L) = (p.q : Int) * shared L := by
  unfold shared
  rw [List.foldl_cons, shared_from L, Int.one_mul]
  rfl
theorem shared_pos : ∀ {L : List Pt}, (∀ p ∈ L, 0 < p.q) → 0 < shared L
  | [], _ => by decide
  | p :: L, h => by
    rw [shared_cons]
    have h1 := h p (List.mem_cons_self ..)
    have h2 := shared_pos (L := L) fun q hq => h q (List.mem_cons_of_mem _ hq)
    exact Int.mul_pos (by omega) h2
theorem shared_dvd : ∀ {L : List Pt} {p : Pt}, p ∈ L → (p.q : Int) ∣ shared L
  | q :: L, p, h => by
    rw [shared_cons]
    rcases List.mem_cons.mp h with rfl | h
    · exact Int.dvd_mul_right _ _
    · exact Int.dvd_mul_of_dvd_right (shared_dvd h)
/-- what the program sorts a point by -/
def key (S : Int) (p : Pt) : List Int := p.x.map fun z => z * (S / (p.q : Int))
def lexLe : List Int → List Int → Bool
  | a :: l, b :: m => decide (a < b) || (a == b && lexLe l m)
  | _, _ => true
theorem key_step {a b P Q u v S : Int} (hP : 0 < P) (hQ : 0 < Q) (hS : 0 < S) (hu : S = P * u) (hv : S = Q * v) : (a * u < b * v ↔ a * Q < b * P) ∧ (a * u = b * v ↔ a * Q = b * P) := by
  have e1 : a * u * (P * Q) = a * Q * S := by rw [hu]; grind
  have e2 : b * v * (P * Q) = b * P * S := by rw [hv]; grind
  have hPQ : 0 < P * Q := Int.mul_pos hP hQ
  refine ⟨⟨fun h => ?_, fun h => ?_⟩, ⟨fun h => ?_, fun h => ?_⟩⟩
  · have := Int.mul_lt_mul_of_pos_right h hPQ
    rw [e1, e2] at this
    exact Int.lt_of_mul_lt_mul_right this (Int.le_of_lt hS)
  · have := Int.mul_lt_mul_of_pos_right h hS
    rw [← e1, ← e2] at this
    exact Int.lt_of_mul_lt_mul_right this (Int.le_of_lt hPQ)
  · have : a * Q * S = b * P * S := by rw [← e1, ← e2, h]
    exact Int.eq_of_mul_eq_mul_right (by omega) this
  · have : a * u * (P * Q) = b * v * (P * Q) := by rw [e1, e2, h]
    exact Int.eq_of_mul_eq_mul_right (by omega) this
theorem lex_lesser {P Q u v S : Int} (hP : 0 < P) (hQ : 0 < Q) (hS : 0 < S) (hu : S = P * u) (hv : S = Q * v) {p q : Nat} (ep : P = (p : Int)) (eq : Q = (q : Int)) : ∀ l m : List Int, lexLe (l.map fun z => z * u) (m.map fun z => z * v) = lesser l m p q
  | [], m => by cases m <;> rfl
  | a :: l, [] => rfl
  | a :: l, b :: m => by
    have ih := lex_lesser hP hQ hS hu hv ep eq l m
    obtain ⟨k1, k2⟩ := key_step (a := a) (b := b) hP hQ hS hu hv
    rw [List.map_cons, List.map_cons]
    show (decide (a * u < b * v) || (a * u == b * v && lexLe _ _)) = (decide (a * (q : Int) < b * (p : Int)) || (a * (q : Int) == b * (p : Int) && lesser l m p q))
    rw [ih, ← ep, ← eq]
    congr 1
    · exact decide_eq_decide.mpr k1
    · congr 1
      rw [Bool.eq_iff_iff, beq_iff_eq, beq_iff_eq]
      exact k2
theorem key_lesser {L : List Pt} (h : ∀ p ∈ L, 0 < p.q) {p r : Pt} (hp : p ∈ L) (hr : r ∈ L) : lexLe (key (shared L) p) (key (shared L) r) = lesser p.x r.x p.q r.q := by
  have hS := shared_pos h
  have h1 := h p hp
  have h2 := h r hr
  unfold key
  refine lex_lesser (P := (p.q : Int)) (Q := (r.q : Int)) (S := shared L) (by omega) (by omega) hS ?_ ?_ rfl rfl p.x r.x
  · exact (Int.mul_ediv_cancel' (shared_dvd hp)).symm
  · exact (Int.mul_ediv_cancel' (shared_dvd hr)).symm
/-- **the program's corners**: sorted by their keys -/
theorem corners_prog {d : Nat} {A : List Row} {L : List Pt} (hd : d ≤ 3) (hr : ∀ r ∈ A, r.a.length = d) (hp : L.Perm (found d A)) (hs : L.Pairwise fun p r => lexLe (key (shared (found d A)) p) (key (shared (found d A)) r) = true) : cornersOf d A = L := by
  have pos : ∀ p ∈ found d A, 0 < p.q := fun p h => by
    obtain ⟨C, _, e⟩ := List.mem_filterMap.mp ((found_mem hd hr p).mp h).1
    exact (Co.only_low e).pos
  refine Co.corners_by (fun p => by rw [hp.mem_iff]; exact found_mem hd hr p) (hp.nodup_iff.mpr (found_nodup d A)) (hs.imp_of_mem fun {a b} ha hb h => ?_)
  rw [← key_lesser pos (hp.mem_iff.mp ha) (hp.mem_iff.mp hb)]
  exact h
end Dt
end

section
set_option Elab.async false
set_option linter.all false
set_option maxRecDepth 100000
set_option maxHeartbeats 4000000
namespace Kl
open PySem PyProof.Rows PySem.SeqAt MeetsSeq MeetsSeq2 MeetsSeq3 SeqRoads2
/-- one list of numbers ahead of another -/
def lexLt : List Int → List Int → Bool
  | a :: l, b :: m => if a = b then lexLt l m else decide (a < b)
  | _, _ => false
theorem ints_at {vs : List Value} {ns : List Int} (h : IntsAre vs ns) {i : Nat} (hi : i < ns.length) : ∃ n t, ns.drop i = n :: ns.drop (i + 1) ∧ vs[i]? = some (.int n t) := by
  obtain ⟨t, ht⟩ := h.get i ns[i] (by simp [hi])
  exact ⟨ns[i], t, List.drop_eq_getElem_cons hi, ht⟩
theorem lt_loop (l b : Addr) (xs ys : Array Value) (n n2 : Nat) (ns ms : List Int) (hx : IntsAre xs.toList ns) (hy : IntsAre ys.toList ms) (hs : ns.length = ms.length) (k : Nat) :
    ∀ i : Nat, ns.length - i = k → Meets (Builtin.«list.__eq__.loop» ⟨[.ref l, .ref b, rawInt i, rawInt 0], []⟩)
      (fun A R s => s.heap.get? l = some { cls := .type "list", data := .seq xs n } ∧ s.heap.get? b = some { cls := .type "list", data := .seq ys n2 } ∧
        R (.ok (.ret (.bool (lexLt (ns.drop i) (ms.drop i))))) s) := by
  have sx : xs.size = ns.length := by rw [← Array.length_toList]; exact hx.length
  have sy : ys.size = ms.length := by rw [← Array.length_toList]; exact hy.length
  induction k with
  | zero =>
    intro i hk prog w A R s h
    obtain ⟨hp, g, d, tk, os⟩ := s
    obtain ⟨hl, hb, h⟩ := h
    wp_walk using AutoSeq1.wpAny_loadPart' hl, AutoSeq1.wpAny_loadPart' hb
    have q1 : xs[((i : Nat) : Int).toNat]? = none := by simp; omega
    have q2 : ys[((i : Nat) : Int).toNat]? = none := by simp; omega
    rw [List.drop_eq_nil_of_le (by omega)] at h
    rw [q1, q2]
    wp_walk using AutoSeq1.wpAny_loadPart' hl, AutoSeq1.wpAny_loadPart' hb
    show R (.ok (.ret (.bool (decide (xs.size < ys.size))))) _
    have e : decide (xs.size < ys.size) = false := decide_eq_false (by omega)
    rw [e]
    exact h
  | succ k ih =>
    intro i hk prog w A R s h
    obtain ⟨hp, g, d, tk, os⟩ := s
    obtain ⟨hl, hb, h⟩ := h
    obtain ⟨x, t, dx, ex⟩ := ints_at hx (i := i) (by omega)
    obtain ⟨y, u, dy, ey⟩ := ints_at hy (i := i) (by omega)
    have q1 : xs[((i : Nat) : Int).toNat]? = some (.int x t) := by simpa using ex
    have q2 : ys[((i : Nat) : Int).toNat]? = some (.int y u) := by simpa using ey
    have hc : ((i : Int) + 1) = ((i + 1 : Nat) : Int) := by push_cast; rfl
    wp_walk using AutoSeq1.wpAny_loadPart' hl, AutoSeq1.wpAny_loadPart' hb
    rw [dx, dy] at h
    rw [q1, q2]
    refine wpAny_bind (EqAt.int_int x t y u prog w _ _ ?_)
    by_cases hxy : x = y
    · have e : (x == y) = true := by simp [hxy]
      rw [e]
      have h : R (.ok (.ret (.bool (lexLt (ns.drop (i + 1)) (ms.drop (i + 1)))))) ⟨hp, g, d, tk, os⟩ := by
        unfold lexLt at h
        rw [if_pos hxy] at h
        exact h
      wp_walk
      rw [hc]
      refine ⟨plainId_quiet plain_eq_loop _, ?_⟩
      refine codeAny_builtin entry_eq_loop ?_
      rw [A.under_plainId plain_eq_loop _]
      exact ih (i + 1) (by omega) prog w A R _ ⟨hl, hb, h⟩
    · have e : (x == y) = false := by simp [hxy]
      rw [e]
      have h : R (.ok (.ret (.bool (decide (x < y))))) ⟨hp, g, d, tk, os⟩ := by
        unfold lexLt at h
        rw [if_neg hxy] at h
        exact h
      wp_walk using AutoSeq1.wpAny_loadPart' hl, AutoSeq1.wpAny_loadPart' hb
      rw [q1, q2]
      refine wpAny_bind (m := richCompare .Lt (.int x t) (.int y u)) (P.lt_int ?_)
      exact wpAny_pure h
theorem list_lt (l b : Addr) (xs ys : Array Value) (n n2 : Nat) (ns ms : List Int) (hx : IntsAre xs.toList ns) (hy : IntsAre ys.toList ms) (hs : ns.length = ms.length) :
    Meets (Builtin.«list.__lt__» ⟨[.ref l, .ref b], []⟩)
      (fun A R s => s.heap.get? l = some { cls := .type "list", data := .seq xs n } ∧ s.heap.get? b = some { cls := .type "list", data := .seq ys n2 } ∧ R (.ok (.ret (.bool (lexLt ns ms)))) s) := by
  intro prog w A R s h
  obtain ⟨hp, g, d, tk, os⟩ := s
  obtain ⟨hl, hb, h⟩ := h
  have f3 := AutoSeq1.sub_list_list
  wp_walk using AutoSeq1.wpAny_loadPart' hl, AutoSeq1.wpAny_loadPart' hb
  refine ⟨plainId_quiet plain_eq_loop _, ?_⟩
  refine codeAny_builtin entry_eq_loop ?_
  rw [A.under_plainId plain_eq_loop _]
  exact lt_loop l b xs ys n n2 ns ms hx hy hs _ 0 rfl prog w A R _ ⟨hl, hb, by simpa using h⟩
/-- two keys compared while a list is sorted -/
theorem key_lt {prog : Program} {w : World} {A : Around} {E : Value → Shared → Prop} {s : Shared} {Q : Bool → Shared → Prop} {l b : Addr} {xs ys : Array Value} {n n2 : Nat} {ns ms : List Int} (hu : A.units < cLine)
    (hl : s.heap.get? l = some { cls := .type "list", data := .seq xs n }) (hb : s.heap.get? b = some { cls := .type "list", data := .seq ys n2 }) (hx : IntsAre xs.toList ns) (hy : IntsAre ys.toList ms) (hs : ns.length = ms.length)
    (h : Q (lexLt ns ms) s) : wpAny (model prog w) A (keyLt' oneType' (.ref l) (.ref b)) Q E s := by
  rw [keyLt'_oneType, oneLt'_eq]
  rw [if_pos rfl]
  refine wpAny_bind (wpAny_cRoomFor hu ?_)
  refine wpAny_bind (wpAny_callSpecialIfBound?_slot (T := "list") ⟨_, hl, rfl⟩ F.slot_list_lt ?_)
  refine call_meets F.slot_list_lt ⟨_, hl, rfl⟩ F.entry_list_lt (F.args_list_lt_2 _ _) (list_lt l b xs ys n n2 ns ms hx hy hs) ⟨hl, hb, ?_⟩
  exact wpAny_truthy_bool h
end Kl
end

section
set_option Elab.async false
set_option linter.all false
set_option maxRecDepth 100000
set_option maxHeartbeats 4000000
namespace Ks
open PySem PySem.W PyProof.Rows
/-- an order of the first n numbers -/
structure Ord (lt : Nat → Nat → Bool) (n : Nat) : Prop where
  neg : ∀ a b c, lt b a = false → lt c b = false → lt c a = false
  dif : ∀ a b, a < n → b < n → a ≠ b → lt a b = false → lt b a = true
  anti : ∀ a b, lt a b = true → lt b a = false
/-- what comes out, if each question is answered by lt -/
def Ok {α : Type} (lt : Nat → Nat → Bool) (n : Nat) : KasT α → (α → Prop) → Prop
  | .ret a, Q => Q a
  | .ask i j k, Q => i < n ∧ j < n ∧ Ok lt n (k (lt i j)) Q
theorem Ok.mono {α : Type} {lt : Nat → Nat → Bool} {n : Nat} {Q Q' : α → Prop} (hq : ∀ a, Q a → Q' a) : ∀ {t : KasT α}, Ok lt n t Q → Ok lt n t Q'
  | .ret a, h => hq a h
  | .ask i j k, h => ⟨h.1, h.2.1, Ok.mono hq h.2.2⟩
theorem Ok.bind {α β : Type} {lt : Nat → Nat → Bool} {n : Nat} {f : α → KasT β} {Q : β → Prop} : ∀ {t : KasT α}, Ok lt n t (fun a => Ok lt n (f a) Q) → Ok lt n (t.bind f) Q
  | .ret a, h => h
  | .ask i j k, h => ⟨h.1, h.2.1, Ok.bind h.2.2⟩
theorem Ok.wp {α : Type} {lt : Nat → Nat → Bool} {n : Nat} {cmp : Nat → Nat → (Bool → Shared → Prop) → Shared → Prop} {s : Shared} (hc : ∀ i j (C : Bool → Shared → Prop), i < n → j < n → C (lt i j) s → cmp i j C s) {Q : α → Prop} {G : α → Shared → Prop} (hG : ∀ a, Q a → G a s) :
    ∀ {t : KasT α}, Ok lt n t Q → t.kasWp cmp G s
  | .ret a, h => hG a h
  | .ask i j k, h => hc i j _ h.1 h.2.1 (Ok.wp hc hG h.2.2)
/-- a row of the numbers below n -/
structure Row (n : Nat) (p : Array Nat) : Prop where
  size : p.size = n
  perm : p.toList.Perm (List.range n)
abbrev at' (p : Array Nat) (i : Nat) : Nat := p.getD i 0
theorem at_get {p : Array Nat} {i : Nat} (h : i < p.size) : p[i]? = some (at' p i) := by simp [at', Array.getD, h]
theorem Row.lt {n : Nat} {p : Array Nat} (h : Row n p) {i : Nat} (hi : i < n) : at' p i < n := by
  have hs : i < p.size := by rw [h.size]; exact hi
  have e := at_get hs
  have hm : at' p i ∈ p.toList := by
    rw [Array.mem_toList_iff]
    exact Array.mem_of_getElem? e
  exact List.mem_range.mp (h.perm.mem_iff.mp hm)
theorem Row.ne {n : Nat} {p : Array Nat} (h : Row n p) {i j : Nat} (hi : i < n) (hj : j < n) (hij : i ≠ j) : at' p i ≠ at' p j := fun e => by
  have nd : p.toList.Nodup := h.perm.nodup_iff.mpr List.nodup_range
  have e1 := at_get (p := p) (i := i) (by rw [h.size]; exact hi)
  have e2 := at_get (p := p) (i := j) (by rw [h.size]; exact hj)
  rw [← Array.getElem?_toList] at e1 e2
  rw [← e, ← e1] at e2
  exact hij ((List.getElem?_inj (by rw [Array.length_toList, h.size]; exact hi) nd).mp e2.symm)
theorem Row.of {n : Nat} {p q : Array Nat} (h : Row n p) (e : q.Perm p) : Row n q := ⟨e.size_eq.trans h.size, (Array.perm_iff_toList_perm.mp e).trans h.perm⟩
section
variable {lt : Nat → Nat → Bool} {n : Nat}
/-- the first m stand in order -/
def Srt (lt : Nat → Nat → Bool) (p : Array Nat) (m : Nat) : Prop := ∀ i j, i ≤ j → j < m → lt (at' p j) (at' p i) = false
theorem Ord.self (O : Ord lt n) (a : Nat) : lt a a = false := by
  cases e : lt a a with
  | false => rfl
  | true => rw [O.anti a a e] at e; cases e
theorem srt_of (O : Ord lt n) {p : Array Nat} {m : Nat} (h : ∀ k, 1 ≤ k → k < m → lt (at' p k) (at' p (k - 1)) = false) : Srt lt p m := by
  intro i j hij hj
  obtain ⟨d, rfl⟩ := Nat.exists_eq_add_of_le hij
  induction d with
  | zero => exact O.self _
  | succ d ih =>
    have h1 := ih (Nat.le_add_right _ _) (by omega)
    have h2 := h (i + d + 1) (by omega) hj
    exact O.neg _ _ _ h1 h2
theorem asc_ok (R : Row n p) : ∀ (f m : Nat), 1 ≤ m → m + f ≤ n → Ok lt n (kas_asc p f m) fun r => m ≤ r ∧ r ≤ m + f ∧ (∀ k, m ≤ k → k < r → lt (at' p k) (at' p (k - 1)) = false) ∧ (r < m + f → lt (at' p r) (at' p (r - 1)) = true)
  | 0, m, h1, h2 => ⟨Nat.le_refl _, Nat.le_refl _, fun k a b => absurd b (by omega), fun z => absurd z (by omega)⟩
  | f + 1, m, h1, h2 => by
    refine ⟨R.lt (by omega), R.lt (by omega), ?_⟩
    cases e : lt (p.getD m 0) (p.getD (m - 1) 0) with
    | true => exact ⟨Nat.le_refl _, by omega, fun k a b => absurd b (by omega), fun _ => e⟩
    | false =>
      refine Ok.mono (fun r hr => ?_) (asc_ok R f (m + 1) (by omega) (by omega))
      obtain ⟨a, b, c, d⟩ := hr
      refine ⟨by omega, by omega, fun k h3 h4 => ?_, fun z => d (by omega)⟩
      by_cases hk : k = m
      · subst hk; exact e
      · exact c k (by omega) h4
theorem desc_ok (O : Ord lt n) (R : Row n p) : ∀ (f m : Nat), 1 ≤ m → m + f ≤ n → Ok lt n (kas_desc f p m 0) fun r => r.1 = p ∧ r.2.2 = 0 ∧ m ≤ r.2.1 ∧ r.2.1 ≤ m + f ∧ ∀ k, m ≤ k → k < r.2.1 → lt (at' p k) (at' p (k - 1)) = true
  | 0, m, h1, h2 => ⟨rfl, rfl, Nat.le_refl _, Nat.le_refl _, fun k a b => absurd b (by show ¬ k < m; omega)⟩
  | f + 1, m, h1, h2 => by
    refine ⟨R.lt (by omega), R.lt (by omega), ?_⟩
    cases e : lt (p.getD m 0) (p.getD (m - 1) 0) with
    | true =>
      show Ok lt n (if 0 > 0 then kas_desc f (kas_rev p (m - (0 + 1)) m) (m + 1) 0 else kas_desc f p (m + 1) 0) _
      rw [if_neg (by omega)]
      refine Ok.mono (fun r hr => ?_) (desc_ok O R f (m + 1) (by omega) (by omega))
      obtain ⟨a0, a1, a, b, c⟩ := hr
      refine ⟨a0, a1, by omega, by omega, fun k h3 h4 => ?_⟩
      by_cases hk : k = m
      · subst hk; exact e
      · exact c k (by omega) h4
    | false =>
      refine ⟨R.lt (by omega), R.lt (by omega), ?_⟩
      have q := O.dif _ _ (R.lt (i := m) (by omega)) (R.lt (i := m - 1) (by omega)) (R.ne (by omega) (by omega) (by omega)) e
      rw [show lt (p.getD (m - 1) 0) (p.getD m 0) = true from q]
      exact ⟨rfl, rfl, Nat.le_refl _, by show m ≤ m + (f + 1); omega, fun k a b => absurd b (by show ¬ k < m; omega)⟩
theorem rev_at (R : Row n p) {m k : Nat} (hm : m ≤ n) (hk : k < n) : at' (kas_rev p 0 m) k = if k < m then at' p (m - 1 - k) else at' p k := by
  have e := getElem?_mirror_all (xs := p) (i := 0) (j := m) (by rw [R.size]; exact hm) k
  have hs : (kas_rev p 0 m).size = n := (mirror_size ..).trans R.size
  have e1 := at_get (p := kas_rev p 0 m) (i := k) (by rw [hs]; exact hk)
  unfold kas_rev at e1
  rw [e] at e1
  by_cases h : k < m
  · rw [if_pos ⟨Nat.zero_le _, h⟩, at_get (by rw [R.size]; omega)] at e1
    rw [if_pos h]
    have := Option.some.inj e1
    rw [show 0 + m - 1 - k = m - 1 - k by omega] at this
    exact this.symm
  · rw [if_neg (fun z => h z.2), at_get (by rw [R.size]; omega)] at e1
    rw [if_neg h]
    exact (Option.some.inj e1).symm
theorem count_ok (O : Ord lt n) (R : Row n p) (hn : 1 ≤ n) : Ok lt n (kas_count n p) fun r => 1 ≤ r.1 ∧ r.1 ≤ n ∧ Row n r.2 ∧ Srt lt r.2 r.1 := by
  unfold kas_count
  refine Ok.bind (Ok.mono (fun m hm => ?_) (asc_ok (lt := lt) R (n - 1) 1 (Nat.le_refl _) (by omega)))
  obtain ⟨a, b, c, d⟩ := hm
  have hs : Srt lt p m := srt_of O c
  by_cases h1 : (m == n) = true
  · rw [if_pos h1]
    exact ⟨a, by show m ≤ n; omega, R, hs⟩
  rw [if_neg h1]
  have h1' : m ≠ n := fun z => h1 (by simp [z])
  have desc : ∀ m, m = 1 → lt (at' p 1) (at' p 0) = true → Ok lt n (kas_descPart m n p) fun r => 1 ≤ r.1 ∧ r.1 ≤ n ∧ Row n r.2 ∧ Srt lt r.2 r.1 := by
    rintro m rfl h10
    unfold kas_descPart
    have h2n : 2 ≤ n := by
      rcases Nat.lt_or_ge 1 n with h | h
      · exact h
      · exfalso; omega
    refine Ok.bind (Ok.mono (fun r hr => ?_) (desc_ok O R (n - (1 + 1)) (1 + 1) (by omega) (by omega)))
    obtain ⟨p', m', q'⟩ := r
    obtain ⟨e1, e2, h3, h4, h5⟩ := hr
    have e1 : p' = p := e1
    have e2 : q' = 0 := e2
    subst e1 e2
    show Ok lt n (if 0 > 0 then kas_tail3 m' n (kas_rev p' (m' - (0 + 1)) m') else kas_tail3 m' n p') _
    rw [if_neg (by omega)]
    have h3 : 1 + 1 ≤ m' := h3
    have h4 : m' ≤ n := by have : m' ≤ 1 + 1 + (n - (1 + 1)) := h4; omega
    have R' : Row n (kas_rev p' 0 m') := R.of (mirror_perm ..)
    have ad : ∀ k, 1 ≤ k → k < m' → lt (at' (kas_rev p' 0 m') k) (at' (kas_rev p' 0 m') (k - 1)) = false := fun k k1 k2 => by
      rw [rev_at R h4 (by omega), rev_at R h4 (by omega), if_pos k2, if_pos (by omega)]
      have : m' - 1 - (k - 1) = m' - 1 - k + 1 := by omega
      rw [this]
      refine O.anti _ _ ?_
      by_cases hz : m' - 1 - k + 1 = 1
      · rw [hz, show m' - 1 - k = 0 by omega]
        exact h10
      · have := h5 (m' - 1 - k + 1) (by omega) (by show m' - 1 - k + 1 < m'; omega)
        exact this
    unfold kas_tail3
    refine Ok.bind (Ok.mono (fun r hr => ?_) (asc_ok (lt := lt) R' (n - m') m' (by omega) (by omega)))
    obtain ⟨g1, g2, g3, _⟩ := hr
    refine ⟨by show 1 ≤ r; omega, by show r ≤ n; omega, R', srt_of O fun k k1 k2 => ?_⟩
    have k2 : k < r := k2
    by_cases hk : k < m'
    · exact ad k k1 hk
    · exact g3 k (by omega) k2
  by_cases h2 : m > 1
  · rw [if_pos h2]
    refine ⟨R.lt (by omega), R.lt (by omega), ?_⟩
    have q1 := hs 0 (m - 1) (by omega) (by omega)
    have q := O.dif _ _ (R.lt (i := m - 1) (by omega)) (R.lt (i := 0) (by omega)) (R.ne (by omega) (by omega) (by omega)) q1
    rw [show lt (p.getD 0 0) (p.getD (m - 1) 0) = true from q]
    exact ⟨a, by show m ≤ n; omega, R, hs⟩
  · rw [if_neg h2]
    have hm1 : m = 1 := by omega
    have := d (by omega)
    rw [hm1] at this
    exact desc m hm1 this
theorem place_ok (O : Ord lt n) (R : Row n p) {k : Nat} (hk : k < n) (hs : Srt lt p k) : ∀ (f l r : Nat), r - l ≤ f → l ≤ r → r ≤ k → (∀ i, i < l → lt (at' p k) (at' p i) = false) → (∀ i, r ≤ i → i < k → lt (at' p k) (at' p i) = true) →
    Ok lt n (kas_place p k f l r) fun l' => l' ≤ k ∧ (∀ i, i < l' → lt (at' p k) (at' p i) = false) ∧ ∀ i, l' ≤ i → i < k → lt (at' p k) (at' p i) = true
  | 0, l, r, hf, h1, h2, h3, h4 => ⟨by omega, h3, fun i a b => h4 i (by omega) b⟩
  | f + 1, l, r, hf, h1, h2, h3, h4 => by
    unfold kas_place
    by_cases hlr : l ≥ r
    · rw [if_pos hlr]
      exact ⟨by omega, h3, fun i a b => h4 i (by omega) b⟩
    · rw [if_neg hlr]
      refine ⟨R.lt hk, R.lt (by omega), ?_⟩
      cases e : lt (p.getD k 0) (p.getD ((l + r) / 2) 0) with
      | true =>
        refine place_ok O R hk hs f l ((l + r) / 2) (by omega) (by omega) (by omega) h3 fun i a b => ?_
        cases z : lt (at' p k) (at' p i) with
        | true => rfl
        | false =>
          have := O.neg _ _ _ (hs ((l + r) / 2) i a b) z
          rw [show lt (at' p k) (at' p ((l + r) / 2)) = true from e] at this
          cases this
      | false =>
        refine place_ok O R hk hs f ((l + r) / 2 + 1) r (by omega) (by omega) h2 (fun i a => ?_) h4
        exact O.neg _ _ _ (hs i ((l + r) / 2) (by omega) (by omega)) e
theorem bub_at (R : Row n p) {k l i : Nat} (hk : k < n) (hl : l ≤ k) (hi : i < n) : at' (bubble p k (k - l)) i = if i = l then at' p k else if l < i ∧ i ≤ k then at' p (i - 1) else at' p i := by
  have e := getElem?_bubble (xs := p) (src := k) (by rw [R.size]; exact hk) (k - l) (by omega) i
  have hs : (bubble p k (k - l)).size = n := (bubble_size ..).trans R.size
  have e1 := at_get (p := bubble p k (k - l)) (i := i) (by rw [hs]; exact hi)
  rw [e, show k - (k - l) = l by omega] at e1
  by_cases h : i = l
  · rw [if_pos h, at_get (by rw [R.size]; exact hk)] at e1
    rw [if_pos h]
    exact (Option.some.inj e1).symm
  · rw [if_neg h] at e1
    rw [if_neg h]
    by_cases h' : l < i ∧ i ≤ k
    · rw [if_pos h', at_get (by rw [R.size]; omega)] at e1
      rw [if_pos h']
      exact (Option.some.inj e1).symm
    · rw [if_neg h', at_get (by rw [R.size]; exact hi)] at e1
      rw [if_neg h']
      exact (Option.some.inj e1).symm
theorem bin_ok (O : Ord lt n) : ∀ (f k : Nat) (p : Array Nat), k + f = n → Row n p → Srt lt p k → Ok lt n (kas_bin f p k) fun r => Row n r ∧ Srt lt r n
  | 0, k, p, e, R, hs => by
    have : k = n := by omega
    subst this
    exact ⟨R, hs⟩
  | f + 1, k, p, e, R, hs => by
    unfold kas_bin
    refine Ok.bind (Ok.mono (fun l hl => ?_) (place_ok O R (k := k) (by omega) hs k 0 k (by omega) (Nat.zero_le _) (Nat.le_refl _) (fun i a => absurd a (by omega)) fun i a b => absurd b (by omega)))
    obtain ⟨g1, g2, g3⟩ := hl
    refine bin_ok O f (k + 1) _ (by omega) (R.of (bubble_perm ..)) fun i j hij hj => ?_
    rw [bub_at R (by omega) g1 (by omega), bub_at R (by omega) g1 (by omega)]
    have hkk := O.self (at' p k)
    by_cases hjl : j = l
    · rw [if_pos hjl]
      by_cases hil : i = l
      · rw [if_pos hil]; exact hkk
      · rw [if_neg hil, if_neg (by omega)]
        exact g2 i (by omega)
    · rw [if_neg hjl]
      by_cases hil : i = l
      · rw [if_pos hil, if_pos (by omega)]
        exact O.anti _ _ (g3 (j - 1) (by omega) (by omega))
      · rw [if_neg hil]
        by_cases h1 : l < j ∧ j ≤ k
        · rw [if_pos h1]
          by_cases h2 : l < i ∧ i ≤ k
          · rw [if_pos h2]; exact hs (i - 1) (j - 1) (by omega) (by omega)
          · rw [if_neg h2]; exact hs i (j - 1) (by omega) (by omega)
        · rw [if_neg h1, if_neg (by omega)]
          exact hs i j hij (by omega)
/-- **sorting puts them in order** -/
theorem sort_ok (O : Ord lt n) (hn : 1 ≤ n) : Ok lt n (kas_sort n) fun r => Row n r ∧ Srt lt r n := by
  unfold kas_sort
  have R0 : Row n (List.range n).toArray := ⟨by simp, by simp⟩
  refine Ok.bind (Ok.mono (fun r hr => ?_) (count_ok O R0 hn))
  obtain ⟨a, b, R, hs⟩ := hr
  by_cases h : r.1 < n
  · rw [if_pos h]
    have e : max r.1 1 = r.1 := by omega
    rw [e]
    exact bin_ok O _ _ _ (by omega) R hs
  · rw [if_neg h]
    have : r.1 = n := by omega
    rw [this] at hs
    exact ⟨R, hs⟩
end
end Ks
end

section
set_option Elab.async false
set_option linter.all false
set_option maxRecDepth 100000
set_option maxHeartbeats 4000000
namespace Sk
open PySem PySem.Spec PySem.W PyProof.Rows L2 Sd
theorem lexLt_anti : ∀ a b : List Int, Kl.lexLt a b = true → Kl.lexLt b a = false
  | [], b, h => by cases b <;> cases h
  | _ :: _, [], h => by cases h
  | x :: l, y :: m, h => by
    unfold Kl.lexLt at h ⊢
    by_cases e : x = y
    · rw [if_pos e] at h
      rw [if_pos e.symm]
      exact lexLt_anti l m h
    · rw [if_neg e] at h
      rw [if_neg fun z => e z.symm]
      have := of_decide_eq_true h
      exact decide_eq_false (by omega)
theorem lexLt_neg : ∀ a b c : List Int, a.length = b.length → b.length = c.length → Kl.lexLt b a = false → Kl.lexLt c b = false → Kl.lexLt c a = false
  | [], [], [], _, _, _, _ => rfl
  | x :: l, y :: m, z :: n, h1, h2, h3, h4 => by
    unfold Kl.lexLt at h3 h4 ⊢
    by_cases e1 : y = x
    · rw [if_pos e1] at h3
      by_cases e2 : z = y
      · rw [if_pos e2] at h4
        rw [if_pos (e2.trans e1)]
        exact lexLt_neg l m n (by simpa using h1) (by simpa using h2) h3 h4
      · rw [if_neg e2] at h4
        have := of_decide_eq_false h4
        rw [if_neg (by omega)]
        exact decide_eq_false (by omega)
    · rw [if_neg e1] at h3
      have g1 := of_decide_eq_false h3
      by_cases e2 : z = y
      · rw [if_neg (by omega)]
        exact decide_eq_false (by omega)
      · rw [if_neg e2] at h4
        have g2 := of_decide_eq_false h4
        rw [if_neg (by omega)]
        exact decide_eq_false (by omega)
theorem lexLt_dif : ∀ a b : List Int, a.length = b.length → a ≠ b → Kl.lexLt a b = false → Kl.lexLt b a = true
  | [], [], _, h, _ => absurd rfl h
  | x :: l, y :: m, h1, h2, h3 => by
    unfold Kl.lexLt at h3 ⊢
    by_cases e : x = y
    · rw [if_pos e] at h3
      rw [if_pos e.symm]
      exact lexLt_dif l m (by simpa using h1) (fun z => h2 (by rw [e, z])) h3
    · rw [if_neg e] at h3
      rw [if_neg fun z => e z.symm]
      have := of_decide_eq_false h3
      exact decide_eq_true (by omega)
/-- the order of keys, by their places -/
def kx (keys : List (List Int)) (d i : Nat) : List Int := match keys[i]? with
  | some k => 0 :: k
  | none => 1 :: List.replicate d 0
def ltAt (keys : List (List Int)) (d i j : Nat) : Bool := Kl.lexLt (kx keys d i) (kx keys d j)
theorem kx_in {keys : List (List Int)} {d i : Nat} (h : i < keys.length) : kx keys d i = 0 :: keys.getD i [] := by
  unfold kx
  rw [List.getElem?_eq_getElem h, List.getD_eq_getElem?_getD, List.getElem?_eq_getElem h]
  rfl
theorem kx_len {keys : List (List Int)} {d : Nat} (hd : ∀ k ∈ keys, k.length = d) (i : Nat) : (kx keys d i).length = d + 1 := by
  unfold kx
  cases e : keys[i]? with
  | some k => show k.length + 1 = d + 1; rw [hd k (List.mem_of_getElem? e)]
  | none => simp
theorem ltAt_in {keys : List (List Int)} {d i j : Nat} (hi : i < keys.length) (hj : j < keys.length) : ltAt keys d i j = Kl.lexLt (keys.getD i []) (keys.getD j []) := by
  unfold ltAt
  rw [kx_in hi, kx_in hj]
  show (if (0 : Int) = 0 then _ else _) = _
  rw [if_pos rfl]
section
variable {X : Cx} {pins : List (Addr × Obj)} {σ : L2.St} {H H' : Hp} {s : Shared} {h' : Heap}
/-- an object of ours that nobody tracked, changed and tracked from now on -/
theorem adopt {a : Addr} {ys : List V} {its : List Value} {n : Nat} {t' : Nat} (I : Inv X pins σ H s) (hH : H a = none) (hL : a ≠ X.env.locals) (h0 : X.s_0.heap.objs.size ≤ a)
    (h2 : ∀ x c, X.env.cells.lookup x = some c → c ≠ a) (h3 : ∀ p ∈ X.pn ++ pins, p.1 ≠ a) (k : ∀ b o, b ≠ a → s.heap.get? b = some o → h'.get? b = some o)
    (ha : h'.get? a = some { cls := .type "list", data := .seq its.toArray n }) (hv : Vals ys its) (hz : ys.length ≤ sizeLine) : Inv X pins σ (L2.upd H a (.lst ys)) { s with heap := h', toks := t' } := by
  have na : ∀ b u, H b = some u → b ≠ a := fun b u e z => by rw [z, hH] at e; cases e
  refine I.step (g' := s.gens) (d' := s.drawn) (ch := [a]) (fun b hb => ?_) (fun b o _ _ hc e _ => k b o (fun z => hc (by simp [z])) e) (fun b o _ _ hc e _ => ⟨o.slots, k b o (fun z => hc (by simp [z])) e⟩)
    (fun b o hc _ q => by rw [upd_ne (fun z => hc (by simp [z]))]; exact q) (fun b o hc e => ⟨o, k b o (fun z => hc (by simp [z])) e⟩) (fun b xs e => by rw [upd_ne (na b _ e)]; exact e) (fun b o u e => by rw [upd_ne (na b _ e)]; exact e) (fun b ps e => ⟨#[], by rw [upd_ne (na b _ e), e]; simp⟩) (fun m hm => ?_) (fun b u e => ?_) I.bare
  · have e : b = a := by simpa using hb
    subst e
    exact ⟨.inr h0, hL, h2, h3⟩
  · obtain ⟨o, es, ep, ho, r⟩ := hm
    exact ⟨o, es, ep, k _ o (Ne.symm hL) ho, r⟩
  · by_cases hb : b = a
    · subst hb
      rw [upd_same] at e
      cases e
      exact ⟨hz, its, n, hv, ha⟩
    · rw [upd_ne hb] at e
      refine (I.hok b u e).stay (fun c v hc q => k c v ?_ q) (fun c q => ?_) fun c xs q => ?_
      · rcases hc with z | z
        · rw [z]; exact hb
        · exact na c _ z
      · rw [upd_ne (na c _ q)]; exact q
      · rw [upd_ne (na c _ q)]; exact q
end
theorem getD_in {α : Type} {l : List α} {i : Nat} {d : α} (h : i < l.length) : l.getD i d ∈ l := by
  rw [List.getD_eq_getElem?_getD, List.getElem?_eq_getElem h]
  exact List.getElem_mem h
theorem vals_refs : ∀ {ps : List Addr} {us : List Value}, Vals (ps.map V.ref) us → us = ps.map Value.ref
  | [], _, .nil => rfl
  | _ :: _, _, .cons r t => by
    cases r
    rw [vals_refs t]
    rfl
theorem seq_up {h : Heap} {a : Addr} {xs : Array Value} {n : Nat} (e : h.get? a = some { cls := .type "list", data := .seq xs n }) (f : Array Value → Array Value) : ∃ m, (h.update a (Obj.mapSeq f)).get? a = some { cls := .type "list", data := .seq (f xs) m } := ⟨_, get?_update_seq e f⟩
section
variable {X : Cx} {pins : List (Addr × Obj)} {σ : L2.St} {H : Hp} {s : Shared} {E : Value → Shared → Prop} {Q : Value → Shared → Prop}
/-- the end of sorting: what the items come to -/
def Sorted (keys : List (List Int)) (p : List Nat) : Prop := p.Perm (List.range keys.length) ∧ p.Pairwise fun i j => Kl.lexLt (keys.getD j []) (keys.getD i []) = false
theorem srt_pairwise {keys : List (List Int)} {d : Nat} {p : Array Nat} {n : Nat} (hn : n = keys.length) (R : Ks.Row n p) (hs : Ks.Srt (ltAt keys d) p n) : Sorted keys p.toList := by
  refine ⟨by rw [← hn]; exact R.perm, ?_⟩
  rw [List.pairwise_iff_getElem]
  intro i j hi hj hij
  have hi' : i < p.size := by simpa using hi
  have hj' : j < p.size := by simpa using hj
  have q := hs i j (Nat.le_of_lt hij) (by rw [← R.size]; exact hj')
  rw [ltAt_in (by rw [← hn]; exact R.lt (by rw [← R.size]; exact hj')) (by rw [← hn]; exact R.lt (by rw [← R.size]; exact hi'))] at q
  unfold Ks.at' at q
  have e1 : p.getD i 0 = p.toList[i] := by simp [Array.getD, hi']
  have e2 : p.getD j 0 = p.toList[j] := by simp [Array.getD, hj']
  rw [e1, e2] at q
  exact q
theorem ord_keys {keys : List (List Int)} {d : Nat} (hd : ∀ k ∈ keys, k.length = d) (hn : keys.Nodup) : Ks.Ord (ltAt keys d) keys.length where
  neg := fun a b c h1 h2 => lexLt_neg _ _ _ (by rw [kx_len hd, kx_len hd]) (by rw [kx_len hd, kx_len hd]) h1 h2
  anti := fun a b h => lexLt_anti _ _ h
  dif := fun a b ha hb hab h => by
    refine lexLt_dif _ _ (by rw [kx_len hd, kx_len hd]) (fun e => hab ?_) h
    rw [kx_in ha, kx_in hb] at e
    injection e with _ e
    rw [List.getD_eq_getElem?_getD, List.getD_eq_getElem?_getD, List.getElem?_eq_getElem ha, List.getElem?_eq_getElem hb] at e
    exact (List.getElem_inj hn).mp e
/-- a record of ours that nobody tracks -/
structure Own (X : Cx) (pins : List (Addr × Obj)) (H : Hp) (a : Addr) : Prop where
  free : H a = none
  loc : a ≠ X.env.locals
  new : X.s_0.heap.objs.size ≤ a
  cell : ∀ x c, X.env.cells.lookup x = some c → c ≠ a
  pin : ∀ p ∈ X.pn ++ pins, p.1 ≠ a
theorem key_tail {A : Around} {a kS : Addr} {e1 : Nat} {st : SortSt} {rs ys : List V} {out : List Value} {Rr : PySem.Fin → Shared → Prop} (I : Inv X pins σ H s) (hk : H kS = some (.lst rs)) (O : Own X pins H a)
    (ha : s.heap.get? a = some { cls := .type "list", data := .seq #[] e1 }) (hout : (arrOf st).map (·.2) = out.toArray) (hv : Vals ys out) (hz : ys.length ≤ 1000) (hf : failedOf st = none)
    (h : ∀ s', Inv X pins σ (L2.upd (L2.upd H kS (.lst [])) a (.lst ys)) s' → Rr (.done (.ret .none)) s') : wpAny (model X.prog X.w) A (ksk_tail a false e1 (.ref kS) st) Rr E s := by
  obtain ⟨z, its, m, r, hl, ek⟩ := I.lstM hk
  have hne : a ≠ kS := fun q => by have z := O.free; rw [q, hk] at z; cases z
  have I1 : Inv X pins σ (L2.upd H kS (.lst [])) { s with heap := s.heap.update kS (Obj.mapSeq fun _ => (#[] : Array Value)) } := I.lset (its' := []) (ys := []) (t' := s.toks) hk ek rfl .nil (Nat.zero_le _)
  have s1 := Heap.SameBut.update s.heap kS (Obj.mapSeq fun _ => (#[] : Array Value))
  have ha1 := (s1.2 a hne).trans ha
  have hlo : out.length = ys.length := hv.length.symm
  unfold ksk_tail
  try dsimp only
  refine wpAny_bind (listUpdate_at ek rfl ?_ (by rw [List.size_toArray]; omega) (Nat.zero_le _))
  refine wpAny_bind (wpAny_letGo ?_)
  refine wpAny_bind (seqEpoch_at ha1 rfl ?_)
  refine wpAny_bind (listUpdate_at ha1 rfl ?_ (Nat.zero_le _) ?_)
  · rw [hf]
    simp only [bne_self_eq_false, Bool.false_eq_true, if_false]
    refine wpAny_pure (h _ ?_)
    obtain ⟨m2, e2⟩ := seq_up ha1 fun _ => (arrOf st).map (·.2)
    rw [hout] at e2
    have s2 := Heap.SameBut.update (s.heap.update kS (Obj.mapSeq fun _ => (#[] : Array Value))) a (Obj.mapSeq fun _ => (arrOf st).map (·.2))
    refine adopt (s := { s with heap := s.heap.update kS (Obj.mapSeq fun _ => (#[] : Array Value)) }) (t' := s.toks) I1 ?_ O.loc O.new O.cell O.pin (fun b o hb e => (s2.2 b hb).trans e) (by rw [← hout] at e2 ⊢; exact e2) hv (by rw [sizeLine_eq]; omega)
    rw [upd_ne hne]
    exact O.free
  · simp only [Bool.false_eq_true, if_false]
    rw [hout, List.size_toArray, hlo, sizeLine_eq]
    omega
theorem item_at {ks vs : List Value} (hl : ks.length = vs.length) {i : Nat} (hi : i < vs.length) : kas_item (ks.toArray.zip vs.toArray) i = (ks.getD i .none, vs.getD i .none) := by
  unfold kas_item
  have h1 : i < ks.length := by omega
  simp [Array.getD, h1, hi]
  rw [dif_pos (by omega)]
theorem vals_pick {xs : List V} {vs : List Value} (hv : Vals xs vs) : ∀ {p : List Nat}, (∀ i ∈ p, i < xs.length) → Vals (p.map fun i => xs.getD i .non) (p.map fun i => vs.getD i .none)
  | [], _ => .nil
  | i :: p, h => by
    have hi := h i (List.mem_cons_self ..)
    obtain ⟨u, hu, r⟩ := hv.get (i := i) (x := xs[i]) (by simp [hi])
    refine .cons ?_ (vals_pick hv fun j hj => h j (List.mem_cons_of_mem _ hj))
    show L2.RelV (xs.getD i .non) (vs.getD i .none)
    rw [List.getD_eq_getElem?_getD, List.getD_eq_getElem?_getD, hu, List.getElem?_eq_getElem hi]
    exact r
theorem pick_range {α : Type} {d : α} (xs : List α) : (List.range xs.length).map (fun i => xs.getD i d) = xs := by
  refine List.ext_getElem (by simp) fun i h1 h2 => ?_
  simp [List.getD_eq_getElem?_getD, h2]
theorem looks_list {M : Model} {h : Heap} {p : Addr} {its : Array Value} {n : Nat} (e : h.get? p = some { cls := .type "list", data := .seq its n }) : Looks M h (typeOf (.ref p)) (.type "list") := by
  show Looks M h (typeOf (.ref p)) ({ cls := .type "list", data := .seq its n } : Obj).cls
  exact (Looks.ld e).andThen .now
theorem key_at {refs : List Addr} {keys : List (List Int)} {i : Nat} (I : Inv X pins σ H s) (hP : Paired (fun p k => LI H p k) refs keys) (hi : i < keys.length) :
    ∃ p k, (refs.map Value.ref).getD i .none = .ref p ∧ keys.getD i [] = k ∧ ∃ (its : List Value) (m : Nat), s.heap.get? p = some { cls := .type "list", data := .seq its.toArray m } ∧ IntsAre its (keys.getD i []) := by
  have hr : i < refs.length := by rw [paired_len hP]; exact hi
  obtain ⟨k, hk, hL⟩ := paired_get hP (List.getElem?_eq_getElem hr)
  obtain ⟨_, its, m, r, _, e⟩ := I.lstM hL
  have ek : keys.getD i [] = k := by rw [List.getD_eq_getElem?_getD, hk]; rfl
  refine ⟨refs[i], k, ?_, ek, its, m, e, ?_⟩
  · rw [List.getD_eq_getElem?_getD, List.getElem?_map, List.getElem?_eq_getElem hr]
    rfl
  · rw [ek]
    exact r.ints
theorem key_end {A : Around} (hu : A.units < cLine) {a kS : Addr} {e1 d : Nat} {refs : List Addr} {keys : List (List Int)} {vs : List Value} {xs : List V} {Rr : PySem.Fin → Shared → Prop} (I : Inv X pins σ H s) (hk : H kS = some (.lst (refs.map V.ref))) (O : Own X pins H a)
    (ha : s.heap.get? a = some { cls := .type "list", data := .seq #[] e1 }) (hP : Paired (fun p k => LI H p k) refs keys) (hd : ∀ k ∈ keys, k.length = d) (hnd : keys.Nodup) (hv : Vals xs vs) (hlen : keys.length = xs.length) (h64 : xs.length < 64)
    (h : ∀ p s', Sorted keys p → Inv X pins σ (L2.upd (L2.upd H kS (.lst [])) a (.lst (p.map fun i => xs.getD i .non))) s' → Rr (.done (.ret .none)) s') :
    wpAny (model X.prog X.w) A (ksk_end a false vs.toArray e1 (.ref kS) (refs.map Value.ref).toArray) Rr E s := by
  have hrl := paired_len hP
  have hvl := hv.length
  have hkl : (refs.map Value.ref).length = vs.length := by rw [List.length_map]; omega
  have hsz : ((refs.map Value.ref).toArray.zip vs.toArray).size = vs.length := by rw [Array.size_zip, List.size_toArray, List.size_toArray]; omega
  have pick : ∀ {p : List Nat}, Sorted keys p → ∀ i ∈ p, i < xs.length := fun {p} hp i hi => by
    have := List.mem_range.mp (hp.1.mem_iff.mp hi)
    omega
  unfold ksk_end
  try dsimp only
  rw [if_neg (show ¬ (false = true) by simp), if_neg (show ¬ (false = true) by simp)]
  by_cases h2 : vs.toArray.size < 2
  · rw [if_pos h2, if_pos h2]
    rw [List.size_toArray] at h2
    refine wpAny_bind (wpAny_pure ?_)
    rw [StateT.run_pure]
    refine wpAny_bind (wpAny_pure ?_)
    try dsimp only
    have hS : Sorted keys (List.range keys.length) := by
      refine ⟨List.Perm.refl _, ?_⟩
      rw [List.pairwise_iff_getElem]
      intro i j hi hj hij
      rw [List.length_range] at hi hj
      omega
    refine key_tail (st := SortSt.mk' general' ((refs.map Value.ref).toArray.zip vs.toArray) #[] 7 none) (out := (List.range keys.length).map fun i => vs.getD i .none) I hk O ha ?_ (vals_pick hv (pick hS)) (by rw [List.length_map, List.length_range]; omega) rfl (fun s' I' => h _ s' hS I')
    have : (List.range keys.length).map (fun i => vs.getD i Value.none) = vs := by
      rw [hlen, hvl]
      exact pick_range vs
    rw [this]
    show ((refs.map Value.ref).toArray.zip vs.toArray).map (·.2) = vs.toArray
    apply Array.ext'
    rw [Array.toList_map, Array.toList_zip]
    show ((refs.map Value.ref).zip vs).map (·.2) = vs
    exact List.map_snd_zip (by omega)
  · rw [if_neg h2, if_neg h2]
    rw [List.size_toArray] at h2
    refine wpAny_bind (kas_kind (T := .type "list") (by omega) (fun v hv' => ?_) rfl rfl ?_)
    · obtain ⟨p, hp, rfl⟩ := List.mem_map.mp hv'
      obtain ⟨i, hi⟩ := List.getElem?_of_mem hp
      obtain ⟨k, _, hk'⟩ := paired_get hP hi
      obtain ⟨_, its, m, _, _, e⟩ := I.lstM hk'
      exact looks_list e
    · have eS : SortSt.mk' oneType' ((refs.map Value.ref).toArray.zip vs.toArray) #[] 7 none = kas_st oneType' ((refs.map Value.ref).toArray.zip vs.toArray) (List.range vs.length).toArray := by
        unfold kas_st
        rw [← hsz, kas_range]
      rw [eS]
      have ord := ord_keys hd hnd
      refine wpAny_bind (wpAny_mono (kas_runs (κ := oneType') (it := (refs.map Value.ref).toArray.zip vs.toArray) (n := vs.length) (E := E)
        (Q := fun _ st' s' => s' = s ∧ failedOf st' = none ∧ ∃ p : Array Nat, arrOf st' = p.map (kas_item ((refs.map Value.ref).toArray.zip vs.toArray)) ∧ Ks.Row keys.length p ∧ Ks.Srt (ltAt keys d) p keys.length)
        (G := fun p s' => s' = s ∧ Ks.Row keys.length p ∧ Ks.Srt (ltAt keys d) p keys.length) (by omega) (by omega) (fun p st' s' q1 q2 q3 q4 => ⟨q4.1, q3, p, q2, q4.2⟩) ?_) ?_ fun _ _ e => e)
      · have en : vs.length = keys.length := by omega
        rw [en]
        refine Ks.Ok.wp (lt := ltAt keys d) (n := keys.length) (fun i j C hi hj hC => ?_) (fun p hp => ⟨rfl, hp⟩) (Ks.sort_ok ord (by omega))
        unfold kas_cmp
        rw [item_at hkl (by omega), item_at hkl (by omega)]
        obtain ⟨p1, k1, g1, g2, g3⟩ := key_at (i := i) I hP hi
        obtain ⟨p2, k2, f1, f2, f3⟩ := key_at (i := j) I hP hj
        rw [g1, f1]
        obtain ⟨its1, m1, e1, i1⟩ := g3
        obtain ⟨its2, m2, e2, i2⟩ := f3
        refine Kl.key_lt (ns := keys.getD i []) (ms := keys.getD j []) hu e1 e2 (by simpa using i1) (by simpa using i2) ?_ ?_
        · rw [hd _ (getD_in hi), hd _ (getD_in hj)]
        · rw [← ltAt_in (d := d) hi hj]
          exact hC
      · rintro ⟨⟨⟩, st'⟩ s' ⟨rfl, hf, p, hp, R, hS⟩
        try dsimp only
        have S1 := srt_pairwise rfl R hS
        refine key_tail (out := p.toList.map fun i => vs.getD i .none) I hk O ha ?_ (vals_pick hv (pick S1)) (by rw [List.length_map, S1.1.length_eq, List.length_range]; omega) hf (fun s' I' => h _ s' S1 I')
        rw [hp, Array.map_map]
        apply Array.ext'
        rw [Array.toList_map]
        show p.toList.map _ = p.toList.map _
        refine List.map_congr_left fun i hi => ?_
        show (kas_item _ i).2 = _
        rw [item_at hkl (by have := pick S1 i hi; omega)]
/-- what a call of the key gives: a new list of numbers -/
def KeyCall (X : Cx) (pins : List (Addr × Obj)) (σ : L2.St) (H : Hp) (A : Around) (f : Addr) (xs : List V) (keys : List (List Int)) : Prop :=
  ∀ (j : Nat) (x : V) (u : Value) (k : List Int) (pins' : List (Addr × Obj)) (s' : Shared) (H' : Hp), (∀ q ∈ pins, q ∈ pins') → xs[j]? = some x → RelV x u → keys[j]? = some k → Inv X pins' σ H' s' → Same H H' →
    wpAny (model X.prog X.w) A (call (.ref f) [u]) (fun v s'' => ∃ p H'', v = .ref p ∧ Inv X pins' σ H'' s'' ∧ Same H' H'' ∧ H' p = none ∧ LI H'' p k) (fun _ _ => False) s'
theorem key_rest {A : Around} (hu : A.units < cLine) {a kS f : Addr} {e1 d : Nat} {keys : List (List Int)} {vs : List Value} {xs : List V} {Rr : PySem.Fin → Shared → Prop} (I : Inv X (pins ++ [(a, { cls := .type "list", data := .seq #[] e1 })]) σ (L2.upd H kS (.lst [])) s) (hk : H kS = none)
    (O : Own X pins H a) (hd : ∀ k ∈ keys, k.length = d) (hnd : keys.Nodup) (hv : Vals xs vs) (hlen : keys.length = xs.length) (h64 : xs.length < 64) (hc : KeyCall X pins σ H A f xs keys)
    (h : ∀ p H' s', Sorted keys p → Same H H' → H' a = some (.lst (p.map fun i => xs.getD i .non)) → Inv X pins σ H' s' → Rr (.done (.ret .none)) s') :
    wpAny (model X.prog X.w) A (ksk_rest a (.ref f) false vs.toArray e1 (.ref kS)) Rr E s := by
  have hvl := hv.length
  unfold ksk_rest
  refine wpAny_bind (wpAny_rule ?_)
  rw [← Array.forIn_toList]
  simp only [List.toList_toArray]
  refine wpAny_bind (ksk_fold (fun i s' => ∃ (Hi : Hp) (refs : List Addr), Inv X (pins ++ [(a, { cls := .type "list", data := .seq #[] e1 })]) σ Hi s' ∧ Same H Hi ∧ Hi kS = some (.lst (refs.map V.ref)) ∧ Paired (fun p k => p ≠ kS ∧ LI Hi p k) refs (keys.take i)) vs 0 s
    ⟨_, [], I, same_new hk, upd_same, by rw [List.take_zero]; exact .nil⟩ ?step ?done)
  case step =>
    rintro j u s' hj ⟨Hi, refs, Ii, si, hki, hPi⟩
    rw [Nat.zero_add] at hPi ⊢
    have hjl : j < vs.length := (List.getElem?_eq_some_iff.mp hj).1
    obtain ⟨x, hx⟩ : ∃ x, xs[j]? = some x := ⟨_, List.getElem?_eq_getElem (by omega)⟩
    obtain ⟨k, hkj⟩ : ∃ k, keys[j]? = some k := ⟨_, List.getElem?_eq_getElem (by omega)⟩
    obtain ⟨u', hu', r⟩ := hv.get hx
    rw [hj] at hu'
    cases hu'
    refine wpAny_bind (wpAny_attempt (wpAny_mono (hc j x u k _ s' Hi (fun q hq => List.mem_append_left _ hq) hx r hkj Ii si) (fun v s'' hq => ?_) fun _ _ z => z.elim))
    obtain ⟨p, H2, rfl, I2, s2, hp, hL⟩ := hq
    try dsimp only
    have hk2 := s2 _ _ hki
    obtain ⟨z, its, m, r2, hl2, ek⟩ := I2.lstM hk2
    have hrl := paired_len hPi
    rw [List.length_take] at hrl
    rw [List.length_map] at hl2
    refine wpAny_bind (listUpdate_at ek rfl ?_ (by rw [List.size_toArray, sizeLine_eq]; omega) (by rw [Array.size_push, List.size_toArray, sizeLine_eq]; omega))
    have I3 := I2.lset (its' := its ++ [.ref p]) (ys := refs.map V.ref ++ [V.ref p]) (t' := s''.toks) (f := (·.push (.ref p))) hk2 ek (by simp) (r2.append (.cons (show RelV (V.ref p) (.ref p) from rfl) .nil)) (by rw [List.length_append, List.length_map, sizeLine_eq]; show refs.length + 1 ≤ _; omega)
    refine wpAny_pure ⟨rfl, _, refs ++ [p], I3, same_upd hk (si.trans s2), by rw [upd_same, List.map_append]; rfl, ?_⟩
    have hpk : p ≠ kS := fun e => by rw [e, hki] at hp; cases hp
    rw [List.take_succ, hkj]
    refine paired_app (paired_mono hPi fun b c q => ⟨q.1, ?_⟩) (.cons ⟨hpk, ?_⟩ .nil)
    · show L2.upd _ _ _ _ = _
      rw [upd_ne q.1]
      exact s2 _ _ q.2
    · show L2.upd _ _ _ _ = _
      rw [upd_ne hpk]
      exact hL
  case done =>
    rintro s' ⟨Hi, refs, Ii, si, hki, hPi⟩
    have ht : keys.take (0 + vs.length) = keys := List.take_of_length_le (by omega)
    rw [ht] at hPi
    obtain ⟨z, its, m, r2, hl2, ek⟩ := Ii.lstM hki
    have ei := vals_refs r2
    subst ei
    have pa := Ii.pin (a, _) (List.mem_append_right _ (List.mem_append_right _ (List.mem_singleton.mpr rfl)))
    have Iu : Inv X pins σ Hi s' := Ii.unpinned
    refine wpAny_bind (listItems_at ek rfl ?_)
    have Oi : Own X pins Hi a := ⟨pa.2.1, O.loc, O.new, O.cell, O.pin⟩
    refine key_end hu Iu hki Oi pa.1 (paired_mono hPi fun b c q => q.2) hd hnd hv hlen h64 fun p s2 hS I2 => h p _ s2 hS ?_ upd_same I2
    refine same_upd O.free (same_upd hk si)
theorem key_tree {A : Around} (hu : A.units < cLine) {a f : Addr} {n d : Nat} {keys : List (List Int)} {vs : List Value} {xs : List V} {Rr : PySem.Fin → Shared → Prop} (I : Inv X pins σ H s) (O : Own X pins H a) (hfs : a ∉ X.fs) (ho : s.heap.get? a = some { cls := .type "list", data := .seq vs.toArray n })
    (hd : ∀ k ∈ keys, k.length = d) (hnd : keys.Nodup) (hv : Vals xs vs) (hlen : keys.length = xs.length) (h64 : xs.length < 64) (hc : KeyCall X pins σ H A f xs keys)
    (h : ∀ p H' s', Sorted keys p → Same H H' → H' a = some (.lst (p.map fun i => xs.getD i .non)) → Inv X pins σ H' s' → Rr (.done (.ret .none)) s') :
    wpAny (model X.prog X.w) A (ksk_tree a (.ref f) false) Rr E s := by
  have hvl := hv.length
  have s1 := Heap.SameBut.update s.heap a (Obj.mapSeq fun _ => (#[] : Array Value))
  obtain ⟨e1, ho1⟩ := seq_up ho fun _ => (#[] : Array Value)
  have I1 : Inv X pins σ H { s with heap := s.heap.update a (Obj.mapSeq fun _ => (#[] : Array Value)) } := I.turned (t' := s.toks) (fun b o hb e => (s1.2 b hb).trans e) O.free O.loc (.inr O.new) O.cell O.pin
  have I2 : Inv X pins σ H { s with heap := (s.heap.update a (Obj.mapSeq fun _ => (#[] : Array Value))).push { cls := .type "tuple", data := .seq vs.toArray } } := I1.kept (t' := s.toks) fun b o e => Heap.get?_push_of_some _ e
  have I3 := I2.lnew (its := []) (ys := []) (t' := s.toks) .nil (Nat.zero_le _)
  have ho2 := Heap.get?_push_of_some { cls := .type "tuple", data := .seq vs.toArray } ho1
  have ho3 := Heap.get?_push_of_some { cls := .type "list", data := .seq ([] : List Value).toArray } ho2
  have hkn : H ((s.heap.update a (Obj.mapSeq fun _ => (#[] : Array Value))).push { cls := .type "tuple", data := .seq vs.toArray }).objs.size = none := I2.fresh
  have hne : a ≠ ((s.heap.update a (Obj.mapSeq fun _ => (#[] : Array Value))).push { cls := .type "tuple", data := .seq vs.toArray }).objs.size := Nat.ne_of_lt (Heap.lt_size ho2)
  unfold ksk_tree
  refine wpAny_bind (listItems_at ho rfl ?_)
  refine wpAny_bind (listUpdate_at ho rfl ?_ (by rw [List.size_toArray, sizeLine_eq]; omega) (Nat.zero_le _))
  refine wpAny_bind (seqEpoch_at ho1 rfl ?_)
  refine wpAny_bind (wpAny_newTuple ?_ (by show vs.length ≤ _; rw [sizeLine_eq]; omega))
  refine wpAny_bind (wpAny_newList ?_ (Nat.zero_le _))
  refine wpAny_holding (key_rest hu (I3.pins_of fun p hp => ?_) hkn O hd hnd hv hlen h64 hc h)
  rcases List.mem_append.mp hp with hp | hp
  · exact I3.pin p (List.mem_append_right _ hp)
  · rw [List.mem_singleton.mp hp]
    exact ⟨ho3, by rw [upd_ne hne]; exact O.free, O.loc, hfs, fun v z => by cases z⟩
/-- sorted(list, key=f) -/
theorem sorted_by (hu : X.A.in1.in1.units < cLine) {l f : Addr} {d : Nat} {keys : List (List Int)} {xs : List V} (I : Inv X pins σ H s) (hx : SqL X.K H l xs)
    (hd : ∀ k ∈ keys, k.length = d) (hnd : keys.Nodup) (hlen : keys.length = xs.length) (h64 : xs.length < 64) (hc : KeyCall X pins σ H X.A.in1.in1 f xs keys)
    (h : ∀ p H' D s', Sorted keys p → Same H H' → H D = none → H' D = some (.lst (p.map fun i => xs.getD i .non)) → Inv X pins σ H' s' → Q (.ref D) s') :
    wpAny (model X.prog X.w) X.A (call (.builtin "sorted") [.ref l] [(Str.ofString "key", .ref f)]) Q E s := by
  obtain ⟨vs, hv, pl, _⟩ := I.list hx
  have hvl := hv.length
  refine call_function_entry_kw kind_sorted plain_sorted entry_sorted (ksk_s1 _ _) ?_
  unfold Builtin.«sorted»
  refine wpAny_bind (m := checkCount "sorted" 1 1 _) (wpAny_pure ?_)
  refine wpAny_bind (collect_list pl.isList ?_ (by rw [sizeLine_eq]; omega))
  refine wpAny_bind (wpAny_newList ?_ (by rw [sizeLine_eq]; omega))
  have hsz : ((s.heap.push (seqObj "list" #[] 0)).update s.heap.objs.size (Obj.mapSeq (· ++ vs.toArray))).objs.size = s.heap.objs.size + 1 := by rw [Heap.size_update, Heap.size_push]
  have keep : ∀ b o, s.heap.get? b = some o → (((s.heap.push (seqObj "list" #[] 0)).update s.heap.objs.size (Obj.mapSeq (· ++ vs.toArray))).push { cls := .type "list", data := .seq vs.toArray }).get? b = some o := fun b o e => by
    have hlt := Heap.lt_size e
    refine Heap.get?_push_of_some _ ?_
    rw [Heap.get?_update_ne _ _ _ _ (Nat.ne_of_lt hlt)]
    exact Heap.get?_push_of_some _ e
  have ho : (((s.heap.push (seqObj "list" #[] 0)).update s.heap.objs.size (Obj.mapSeq (· ++ vs.toArray))).push { cls := .type "list", data := .seq vs.toArray }).get? ((s.heap.push (seqObj "list" #[] 0)).update s.heap.objs.size (Obj.mapSeq (· ++ vs.toArray))).objs.size = some { cls := .type "list", data := .seq vs.toArray } := Heap.get?_push_size _ rfl
  generalize ((s.heap.push (seqObj "list" #[] 0)).update s.heap.objs.size (Obj.mapSeq (· ++ vs.toArray))).push { cls := .type "list", data := .seq vs.toArray } = h2 at keep ho ⊢
  generalize ((s.heap.push (seqObj "list" #[] 0)).update s.heap.objs.size (Obj.mapSeq (· ++ vs.toArray))).objs.size = a at hsz ho ⊢
  have hle : s.heap.objs.size ≤ a := by omega
  have hn := I.hok.fresh hle
  obtain ⟨_, f1, f2, _, f4, f5⟩ := I.fpOk hle hn
  have I2 : Inv X pins σ H { s with heap := h2 } := I.kept (t' := s.toks) keep
  refine wpAny_bind (wpAny_holding (wpAny_call_entry_kw slot_list_sort ⟨_, ho, rfl⟩ entry_list_sort ?_ (ksk_l1 _ _)))
  show wpAny (model X.prog X.w) X.A.in1.in1 (Builtin.«list.sort» ⟨[.ref a], [(Str.ofString "key", .ref f)]⟩) _ _ _
  rw [ksk_t1]
  refine key_tree hu I2 ⟨hn, f1, Nat.le_trans I.sz hle, f4, f5⟩ f2 ho hd hnd hv hlen h64 hc fun p H' s' hS hs ha I' => ⟨_, rfl, ?_⟩
  exact wpAny_pure ⟨_, rfl, h p H' a s' hS hs hn ha I'⟩
end
end Sk
end

section
set_option Elab.async false
set_option linter.all false
set_option maxRecDepth 100000
set_option maxHeartbeats 4000000
namespace Ky
open PySem PySem.Spec PySem.W PyProof.Rows L2 Sd
/-- a lambda's body running, called at s -/
abbrev lamCx (X : Cx) (A : Around) (s : Shared) (H : Hp) (env : Env) : Cx := { X with A := A.deeper env, s_0 := s, H_0 := H, env := env, outer := X.stack, stack := env :: X.stack, ex := [], fn := fun x => env.scope.names.lookup x == some .cell, calm := true, pn := [], xe := fun _ _ => False }
/-- its names -/
def lamEnv (X : Cx) (s : Shared) (scope : Scope) (qual : Str) (f : Addr) (code : Value) : Env := newEnv scope s.heap.objs.size mainGlobals (cellsFrom (s.heap.objs.size + 1) scope.names (cloFrom X.env.cells scope.names [])) qual (some f) code none builtinsNs
section
variable {X : Cx} {pins : List (Addr × Obj)} {σ : L2.St} {H : Hp} {s : Shared}
theorem lam_start {scope : Scope} {own : List (Str × Nat)} {A : Around} {qual : Str} {f : Addr} {code : Value} (I : Inv X pins σ H s) (ok : BlkOk X.N X.env.scope scope own) (hN : X.N.Nodup) (hA : A.frames = some X.stack) (hh : A.handled = none) :
    Inv (lamCx X A s H (lamEnv X s scope qual f code)) [] (wipe σ (own.map (·.2))) H { s with heap := pushCells (s.heap.push { cls := .type "frame", data := .dict #[] }) scope.names } := by
  have hfree : ∀ y ∈ scope.names, y.2 = .free → ∃ c, X.env.cells.lookup y.1 = some c := fun y hy e => by
    rcases ok.free y hy e with k | k
    · exact I.ok.has _ (.inl k)
    · exact I.ok.has _ (.inr k)
  generalize hcenv : lamEnv X s scope qual f code = cenv
  have kp : ∀ b o, s.heap.get? b = some o → (pushCells (s.heap.push { cls := .type "frame", data := .dict #[] }) scope.names).get? b = some o := fun b o e => pushCells_keeps _ _ _ _ (Heap.get?_push_of_some _ e)
  have hL : cenv.locals = s.heap.objs.size := by rw [← hcenv]; rfl
  have hcl : cenv.cells = cellsFrom (s.heap.objs.size + 1) scope.names (cloFrom X.env.cells scope.names []) := by rw [← hcenv]; rfl
  have hsc : cenv.scope = scope := by rw [← hcenv]; rfl
  rw [← Heap.size_push s.heap { cls := .type "frame", data := .dict #[] }] at hcl
  have cm : ∀ {y c}, (y, c) ∈ cloFrom X.env.cells scope.names [] → X.env.cells.lookup y = some c ∧ c < s.heap.objs.size := fun {y c} hm => by
    rcases cloFrom_mem hm with hm | ⟨h1, rfl⟩
    · cases hm
    · obtain ⟨c, hc⟩ := hfree _ h1 rfl
      rw [hc]
      obtain ⟨w, z⟩ := I.cell _ _ hc
      exact ⟨rfl, z.lt⟩
  have mem : ∀ {y c}, cenv.cells.lookup y = some c → (X.env.cells.lookup y = some c ∧ c < s.heap.objs.size) ∨ (s.heap.objs.size + 1 ≤ c ∧ CellAt (pushCells (s.heap.push { cls := .type "frame", data := .dict #[] }) scope.names) c none) := fun {y c} e => by
    rw [hcl] at e
    rcases cells_mem (PySem.mem_of_lookup e) with hm | ⟨_, h2, h3⟩
    · exact .inl (cm hm)
    · rw [Heap.size_push] at h2; exact .inr ⟨h2, h3⟩
  have look : ∀ {y}, scope.names.lookup y = some .free → ∃ c, cenv.cells.lookup y = some c ∧ X.env.cells.lookup y = some c := fun {y} hl => by
    have hy : (y, NameKind.free) ∈ scope.names := PySem.mem_of_lookup hl
    obtain ⟨c', e'⟩ := mem_lookup (cells_acc (names := scope.names) (n := (s.heap.push { cls := .type "frame", data := .dict #[] }).objs.size) (cloFrom_has (cells := X.env.cells) (acc := []) hy))
    rw [← hcl] at e'
    refine ⟨c', e', ?_⟩
    rw [hcl] at e'
    rcases cells_mem (PySem.mem_of_lookup e') with hm | ⟨h1, _, _⟩
    · exact (cm hm).1
    · have := ok.uniq _ h1
      rw [hl] at this; cases this
  have noex : ∀ b : Addr, b ∉ (lamCx X A s H cenv).ex := fun b z => absurd (show b ∈ ([] : List Addr) from z) (by simp)
  have okB : (lamCx X A s H cenv).Ok := by
    refine ⟨I.ok.mod, by show cenv.scope.kind = _; rw [hsc]; exact ok.kind, by show cenv.globals = _; rw [← hcenv]; rfl, by show cenv.builtins = _; rw [← hcenv]; rfl, by show s.heap.objs.size ≤ cenv.locals; rw [hL]; exact Nat.le_refl _,
      fun y z c e1 e2 => ?_, fun y hy => ?_, fun y c z e => ?_, fun _ => hh, Around.frames_deeper hA, .inr ⟨rfl, by show cenv.frame = some cenv.locals; rw [← hcenv]; rfl⟩, fun b z => absurd z (noex b), I.bs, Nat.le_trans I.ok.bsz I.sz, fun b _ _ => noex b, fun b z => absurd z (noex b), I.stack, I.stkFree⟩
    · have e1 : cenv.cells.lookup y = some c := e1
      have e2 : cenv.cells.lookup z = some c := e2
      rw [hcl] at e1 e2
      refine cells_inj (fun p hp => ?_) (fun y z c a b => I.ok.inj y z c (cm a).1 (cm b).1) (PySem.mem_of_lookup e1) (PySem.mem_of_lookup e2)
      rw [Heap.size_push]
      exact Nat.lt_succ_of_lt (cm (y := p.1) (c := p.2) hp).2
    · show ∃ c, cenv.cells.lookup y = some c
      have hy : scope.names.lookup y = some .cell ∨ scope.names.lookup y = some .free := by
        have hy : cenv.scope.names.lookup y = some .cell ∨ cenv.scope.names.lookup y = some .free := hy
        rw [hsc] at hy
        exact hy
      rcases hy with hy | hy
      · obtain ⟨c, hm⟩ := cells_has (n := (s.heap.push { cls := .type "frame", data := .dict #[] }).objs.size) (acc := cloFrom X.env.cells scope.names []) (PySem.mem_of_lookup hy)
        obtain ⟨c', e'⟩ := mem_lookup hm
        exact ⟨c', by rw [hcl]; exact e'⟩
      · obtain ⟨c, h1, _⟩ := look hy
        exact ⟨c, h1⟩
    · have z : (cenv.scope.names.lookup y == some NameKind.cell) = true := z
      rw [hsc] at z
      have z : scope.names.lookup y = some .cell := by simpa using z
      have e : cenv.cells.lookup y = some c := e
      rw [hcl] at e
      rcases cells_mem (PySem.mem_of_lookup e) with hm | ⟨_, h2, _⟩
      · rcases cloFrom_mem hm with hm | ⟨h1, _⟩
        · cases hm
        · have q := ok.uniq _ h1
          rw [z] at q; cases q
      · rw [Heap.size_push] at h2
        exact Nat.le_of_succ_le h2
  refine ⟨okB, rfl, I.bare, Un.kept kp, ⟨fun _ => none, ?_, fun i y av e1 e2 e3 => ?_⟩, fun y c e => ?_, ?_, fun y c e => ?_, fun p hp => ?_, I.hok.kept kp, by rw [wipe_length]; exact I.len⟩
  · show Heap.Ns _ cenv.locals _
    rw [hL]
    exact Heap.Ns.keeps (Heap.Ns.new ..) fun b o e => pushCells_keeps _ _ _ _ e
  · obtain ⟨e2, hne⟩ := wipe_some e2
    have e3 : Vis cenv.scope y := e3
    rw [hsc] at e3
    have no : ∀ k, scope.names.lookup y = some k → ¬ (k = .local ∨ k = .cell) := fun k e hh => by
      rcases ok.own _ (PySem.mem_of_lookup e) hh with e' | e'
      · obtain ⟨p, hp, hpy⟩ := List.mem_map.mp e'
        have e3 := ok.ix p hp
        have : p.1 = y := hpy
        rw [this] at e3
        exact hne (List.mem_map.mpr ⟨p, hp, nodup_ix hN e3 e1⟩)
      · exact e' (List.mem_of_getElem? e1)
    have hfr : scope.names.lookup y = some .free := by
      rcases e3 with e3 | e3 | e3
      · exact absurd (.inl rfl) (no _ e3)
      · exact absurd (.inr rfl) (no _ e3)
      · exact e3
    obtain ⟨m, hn, hl⟩ := I.loc
    have hvis : Vis X.env.scope y := (ok.free _ (PySem.mem_of_lookup hfr) rfl).elim (fun k => .inr (.inl k)) (fun k => .inr (.inr k))
    obtain ⟨w, r, q⟩ := hl i y av e1 e2 hvis
    refine ⟨w, r, .inr ⟨.inr (by show cenv.scope.names.lookup y = _; rw [hsc]; exact hfr), ?_⟩⟩
    obtain ⟨c, h1, h2⟩ := look hfr
    rcases q with ⟨k, _⟩ | ⟨_, c', e', z⟩
    · have k : X.env.scope.names.lookup y = some .local := k
      rcases ok.free _ (PySem.mem_of_lookup hfr) rfl with k' | k' <;> rw [show X.env.scope.names.lookup y = _ from k'] at k <;> cases k
    · rw [h2] at e'; cases e'
      exact ⟨c, h1, z.keeps kp⟩
  · have e : cenv.cells.lookup y = some c := e
    rcases mem e with ⟨h1, _⟩ | ⟨_, z⟩
    · obtain ⟨w, z⟩ := I.cell y c h1
      exact ⟨w, z.keeps kp⟩
    · exact ⟨_, z⟩
  · show H cenv.locals = none
    rw [hL]; exact I.hok.fresh (Nat.le_refl _)
  · have e : cenv.cells.lookup y = some c := e
    rcases mem e with ⟨h1, _⟩ | ⟨h1, _⟩
    · exact I.freeC y c h1
    · exact I.hok.fresh (Nat.le_of_succ_le h1)
  · exact absurd (show p ∈ ([] : List (Addr × Obj)) ++ [] from hp) (by simp)
/-- a lambda called with one value -/
theorem lam_run {A : Around} {f c' : Addr} {qual : Str} {params : Arguments} {body : Expr} {scope : Scope} {own : List (Str × Nat)} {pm ctv u : Value} {v : V} {x : Str} {i : Nat} {tb : TE} {Q : VK} (I : Inv X pins σ H s) (hA : A.frames = some X.stack) (hh : A.handled = none) (hdp : A.depth < recursionLimit)
    (ho : s.heap.get? f = some (kla_obj "<lambda>" qual params body scope (cloFrom X.env.cells scope.names []) pm c' ctv)) (hcd : s.heap.CodeRec (.ref c') qual) (ok : BlkOk X.N X.env.scope scope own) (hN : X.N.Nodup) (hco : scope.isCoroutine = false) (hgen : scope.isGenerator = false)
    (hi : X.N[i]? = some x) (hx : scope.names.lookup x = some .cell) (hbind : bindArgs (kla_fn "<lambda>" qual params body scope (cloFrom X.env.cells scope.names []) pm (.ref c') ctv) ⟨[u], []⟩ = pure [(x, u)]) (rv : RelV v u)
    (hb : PE (lamCx X A s H (lamEnv X s scope (qual ++ ".<locals>.") f (.ref c'))) body tb) (h : tb ((wipe σ (own.map (·.2))).set i (some v)) H Q) :
    wpAny (model X.prog X.w) A (call (.ref f) [u]) (EP X pins σ Q) (fun _ _ => False) s := by
  refine wpAny_call (kla_callFunE hdp ho rfl hco hgen rfl hcd ?_)
  rw [hbind]
  refine wpAny_pure ?_
  simp only [newFunctionEnv, Option.isSome_none, Bool.false_eq_true, if_false]
  refine wpAny_bind (wpAny_alloc ?_)
  refine wpAny_bind (wpAny_layCells _ (fun n k c => by cases hkc : k == NameKind.cell <;> simp [hkc]) _ _ _ _ ?_)
  rw [show ({ s with heap := s.heap.push { cls := .type "frame", data := .dict #[] } } : Shared).heap.objs.size = s.heap.objs.size + 1 from Heap.size_push ..]
  have I1 := lam_start (qual := qual ++ ".<locals>.") (f := f) (code := .ref c') I ok hN hA hh
  refine wpAny_bind ?_
  rw [List.forIn_cons]
  refine wpAny_bind (wpAny_bind (store_ok (X := lamCx X A s H (lamEnv X s scope (qual ++ ".<locals>.") f (.ref c'))) I1 hN hi (.inr hx) rv (fun s2 I2 => wpAny_pure ?_) (.inl (by show (scope.names.lookup x == some NameKind.cell) = true; rw [hx]; rfl))))
  dsimp only
  rw [List.forIn_nil]
  refine wpAny_pure (wpAny_pure ⟨I2.nolimit, ?_⟩)
  refine kla_codeExpr (wpAny_mono (hb [] s2 _ H Q I2 h) (fun v' s3 q => ?_) fun _ _ z => z.elim)
  obtain ⟨v2, H2, I3, r2, q2⟩ := q
  exact ⟨v2, H2, I.call' (ch := []) I3.os I3.base I3.hok I3.bare (fun b z => absurd z (by simp)), r2, q2⟩
/-- the builtins' module stands in the base -/
def BM (mg : Str → Option Value) (base : Heap) : Prop := ∃ bm ob, mg "__builtins__" = some (.ref bm) ∧ bm ≠ builtinsNs ∧ base.get? bm = some ob ∧ ob.cls = .type "module" ∧ ob.dict = some builtinsNs ∧ ob.data = .plain
theorem tbl_inv {P : Addr} {h' : Heap} {more : Array Value} {t' : Nat} (I : Inv X pins σ H s) (hP : H P = some (.tbl #[])) (hx : ∀ b o, b ≠ P → s.heap.get? b = some o → h'.get? b = some o) (ht : h'.get? P = some { cls := .none, data := .fields more }) :
    Inv X pins σ (L2.upd H P (.tbl more)) { s with heap := h', toks := t' } := by
  have ne : ∀ b, H b = none → b ≠ P := fun b n z => by rw [z, hP] at n; cases n
  refine I.un ⟨fun b o e n _ _ => hx b o (ne b n) e, fun b o e n _ _ => ⟨o.slots, hx b o (ne b n) e⟩, fun b o e n _ => by rw [upd_ne (ne b n)]; exact n, fun b o e _ => ?_, fun b xs e => ?_, fun b o u e => ?_, fun b ps e => ?_⟩ fun b u e => ?_
  · by_cases hb : b = P
    · rw [hb]; exact ⟨_, ht⟩
    · exact ⟨o, hx b o hb e⟩
  · rw [upd_ne (fun z => by rw [z, hP] at e; cases e)]; exact e
  · rw [upd_ne (fun z => by rw [z, hP] at e; cases e)]; exact e
  · by_cases hb : b = P
    · subst hb
      rw [hP] at e
      cases e
      exact ⟨more, by rw [upd_same]; simp⟩
    · exact ⟨#[], by rw [upd_ne hb, e]; simp⟩
  · by_cases hb : b = P
    · subst hb
      rw [upd_same] at e
      cases e
      exact ht
    · rw [upd_ne hb] at e
      have own : ∀ c y, H c = some (.own y) → c ≠ P := fun c y q z => by rw [z, hP] at q; cases q
      have tup : ∀ c xs, H c = some (.tup xs) → c ≠ P := fun c y q z => by rw [z, hP] at q; cases q
      refine (I.hok b u e).stay (fun c v hc q => hx c v ?_ q) (fun c q => by rw [upd_ne (own c _ q)]; exact q) fun c xs q => by rw [upd_ne (tup c _ q)]; exact q
      rcases hc with z | z
      · rw [z]; exact hb
      · exact own c _ z
/-- a lambda made, its code's place in the table -/
theorem lam_make {params : Arguments} {body : Expr} {scope : Scope} {lpos : Pos} {c P : Addr} {E : Value → Shared → Prop} {Q : Value → Shared → Prop} (I : Inv X pins σ H s) (hP : H P = some (.tbl #[])) (hcode : X.env.code = .ref c) (C : CodeHd X.base c P) (B : BM X.mg X.base)
    (hfree : ∀ y ∈ scope.names, y.2 = .free → X.env.scope.names.lookup y.1 = some .cell ∨ X.env.scope.names.lookup y.1 = some .free) (hdef : defaultsOf params X.env = ([], []))
    (h : ∀ f c' ctv oc vs t more s', Inv X (pins ++ [(f, kla_obj "<lambda>" (X.env.qual ++ "<lambda>") params body scope (cloFrom X.env.cells scope.names []) ((X.mg "__name__").getD .none) c' ctv), (c', oc)]) σ (L2.upd H P (.tbl more)) s' → oc.data = .fields vs → vs[1]? = some (.str (X.env.qual ++ "<lambda>") t) → Q (.ref f) s') :
    wpAny (model X.prog X.w) X.A (eval (.Lambda params body scope lpos) X.env) Q E s := by
  have eP : s.heap.get? P = some { cls := .none, data := .fields #[] } := I.hok P _ hP
  have hg := I.mod.glob.keeps I.bk
  have hgP : mainGlobals ≠ P := fun z => by
    obtain ⟨o, es, ep, e, hd, _⟩ := id hg
    rw [z, eP] at e
    cases e
    cases hd
  obtain ⟨bm, ob, b1, b2, b3, b4, b5, b6⟩ := B
  have hbP : bm ≠ P := fun z => by
    have e := I.bk _ _ b3
    rw [z, eP] at e
    cases e
    cases b4
  have hbG : bm ≠ mainGlobals := fun z => by
    obtain ⟨o, es, ep, e, hd, _⟩ := id I.mod.glob
    rw [z, e] at b3
    cases b3
    rw [hd] at b6
    cases b6
  refine kla_eval hdef ?_
  refine kla_makeFunction (closure_ok fun y hy e => ?_) I.ok.glob hg hcode (C.keeps I.bk) eP trivial rfl hgP ⟨bm, ob, b1, b2, hbG, hbP, I.bk _ _ b3, b4, b5, b6⟩ fun c' ctv h' tk hx hge hlt hrec htb => ?_
  · rcases hfree y hy e with k | k
    · exact I.ok.has _ (.inl k)
    · exact I.ok.has _ (.inr k)
  obtain ⟨c2, oc, vs, t, e2, hoc, hd, hv⟩ := hrec
  cases e2
  have hsz : s.heap.objs.size ≤ h'.objs.size := Nat.le_of_lt (Nat.lt_of_le_of_lt hge hlt)
  have I1 := tbl_inv (h' := h'.push (kla_obj "<lambda>" (X.env.qual ++ "<lambda>") params body scope (cloFrom X.env.cells scope.names []) ((X.mg "__name__").getD .none) c' ctv)) (t' := tk) I hP (fun b o hb e => Heap.get?_push_of_some _ (hx b o hb e)) (Heap.get?_push_of_some _ htb)
  have ne : ∀ b, s.heap.objs.size ≤ b → b ≠ P := fun b hb z => absurd (Heap.lt_size eP) (by rw [← z]; exact Nat.not_lt.mpr hb)
  refine h _ c' ctv oc vs t _ _ (I1.pins_of fun p hp => ?_) hd hv
  rcases List.mem_append.mp hp with hp | hp
  · exact I1.pin p (List.mem_append_right _ hp)
  · rcases List.mem_cons.mp hp with rfl | hp
    · obtain ⟨f0, f1, f2, _⟩ := I.fpOk (H' := L2.upd H P (.tbl (#[] ++ #[rawInt lpos.line, rawInt lpos.col, .ref c']))) (b := h'.objs.size) hsz (by rw [upd_ne (ne _ hsz)]; exact I.hok.fresh hsz)
      exact ⟨Heap.get?_push_size _ rfl, f0, f1, f2, fun v z => by cases z⟩
    · rw [List.mem_singleton.mp hp]
      obtain ⟨f0, f1, f2, _⟩ := I.fpOk (H' := L2.upd H P (.tbl (#[] ++ #[rawInt lpos.line, rawInt lpos.col, .ref c']))) (b := c') hge (by rw [upd_ne (ne _ hge)]; exact I.hok.fresh hge)
      exact ⟨Heap.get?_push_of_some _ hoc, f0, f1, f2, fun v z => by rw [hd] at z; cases z⟩
/-- sorted(e, key=lambda ..): P the table of the def's code, i the place of the lambda's name -/
def tSortBy (K : PySem.W.Frag) (P : Addr) (vs : List Nat) (i : Nat) (t : TA) (tb : TE) : TE := fun σ H Q => t σ H fun us H1 => ∃ (l : Addr) (xs : List V) (keys : List (List Int)) (d : Nat), us = [.ref l] ∧ SqL K H1 l xs ∧ H1 P = some (.tbl #[]) ∧ (∀ k ∈ keys, k.length = d) ∧ keys.Nodup ∧ keys.length = xs.length ∧ xs.length < 64 ∧
  (∀ (j : Nat) (y : V) (k : List Int) (H' : Hp), xs[j]? = some y → keys[j]? = some k → SameX P H1 H' → tb ((wipe σ vs).set i (some y)) H' fun v H'' => ∃ p, v = .ref p ∧ Same H' H'' ∧ H' p = none ∧ LI H'' p k) ∧
  ∀ (pm : List Nat) (H' : Hp) (D : Addr), Sk.Sorted keys pm → SameX P H1 H' → H' D = some (.lst (pm.map fun i => xs.getD i .non)) → Q (.ref D) H'
theorem sq_upd {K : PySem.W.Frag} {P l : Addr} {xs : List V} {o : HO} {H1 : Hp} (hP : H1 P = some (.tbl #[])) (h : SqL K H1 l xs) : SqL K (L2.upd H1 P o) l xs := by
  rcases h with (h | ⟨ob, h⟩) | h
  · exact .inl (.inl (by rw [upd_ne (fun z => by rw [z, hP] at h; cases h)]; exact h))
  · exact .inl (.inr ⟨ob, by rw [upd_ne (fun z => by rw [z, hP] at h; cases h)]; exact h⟩)
  · exact .inr h
theorem pe_sortBy {K : PySem.W.Frag} {k : Nat} {e : Expr} {t : TA} {tb : TE} {params : Arguments} {body : Expr} {scope : Scope} {own : List (Str × Nat)} {p pos lpos kp : Pos} {c P : Addr} {x : Str} {i : Nat} (hK : X.K = K) (hr : Room (k + 2) X.A) (hg : Gl X "sorted") (hm : X.mg "sorted" = none) (hcode : X.env.code = .ref c) (C : CodeHd X.base c P) (B : BM X.mg X.base)
    (ok : BlkOk X.N X.env.scope scope own) (hN : X.N.Nodup) (hco : scope.isCoroutine = false) (hgen : scope.isGenerator = false) (hdef : defaultsOf params X.env = ([], [])) (hi : X.N[i]? = some x) (hx : scope.names.lookup x = some .cell)
    (hbind : ∀ (qual : Str) (cl : List (Str × Addr)) (pm u ctv : Value) (c' : Addr), bindArgs (kla_fn "<lambda>" qual params body scope cl pm (.ref c') ctv) ⟨[u], []⟩ = pure [(x, u)])
    (ha : PA X [e] t) (hb : ∀ (s' : Shared) (H' : Hp) (qual : Str) (f : Addr) (code : Value), PE (lamCx X X.A.in1.in1 s' H' (lamEnv X s' scope qual f code)) body tb)
    (hs1 : backTo pos (starEach [e] X.env) = (false, eval e X.env) :: backTo pos (starEach [] X.env) := by rfl) (hs2 : (backTo pos (starEach [e] X.env)).any (·.1) = false := by rfl) :
    PE X (.Call (.Name "sorted" p) [e] [⟨some "key", .Lambda params body scope lpos, kp⟩] pos) (tSortBy K P (own.map (·.2)) i t tb) := by
  subst hK
  intro pins s σ H Q I h
  have R := hr.in1.in1
  refine wpAny_Call_Name_kw (ld_blt I hg hm PyProof.Rows.boot_sorted ?_)
  refine callWith_kw (thn (ha pos pins s σ H _ I h) fun us s1 ⟨vs, H1, I1, r1, q1⟩ => ?_) hs1 hs2
  obtain ⟨l, xs, keys, d, rfl, hq, hP, hd, hnd, hlen, h64, hkey, hend⟩ := q1
  rw [Vals.ref1 r1]
  refine kws_cons (lam_make I1 hP hcode C B ok.free hdef fun f c' ctv oc ws t' more s2 I2 g1 g2 => kws_nil ?_)
  show wpAny (model X.prog X.w) X.A (call (.builtin "sorted") [.ref l] [(Str.ofString "key", .ref f)]) (EP X pins σ Q) X.xe s2
  have sx : ∀ {H' : Hp}, Same (L2.upd H1 P (.tbl more)) H' → SameX P H1 H' := fun {H'} hs b o hb e => hs b o (by rw [upd_ne hb]; exact e)
  refine Sk.sorted_by R.units0 I2 (sq_upd hP hq) hd hnd hlen h64 (fun j y u kk pins' s' H' hsub hj ru hk Ii hs => ?_) fun pm H' D s' hS hs _ hD I' => ?_
  · have pf := Ii.pin _ (List.mem_append_right _ (hsub _ (List.mem_append_right _ (List.mem_cons_self ..))))
    have pc := Ii.pin _ (List.mem_append_right _ (hsub _ (List.mem_append_right _ (List.mem_cons_of_mem _ (List.mem_singleton.mpr rfl)))))
    refine wpAny_mono (lam_run (A := X.A.in1.in1) Ii I.ok.frames R.hd R.depth pf.1 ⟨c', oc, ws, t', rfl, pc.1, g1, g2⟩ ok hN hco hgen hi hx (hbind _ _ _ _ _ _) ru (hb s' H' _ _ _) (hkey j y kk H' hj hk (sx hs))) (fun v s'' q => ?_) fun _ _ z => z
    obtain ⟨v2, H2, I3, r2, pp, rfl, h1, h2, h3⟩ := q
    cases r2
    exact ⟨pp, H2, rfl, I3, h1, h2, h3⟩
  · exact ⟨.ref D, H', I'.unpinned, rfl, hend pm H' D hS (sx hs) hD⟩
end
end Ky
end

section
set_option Elab.async false
set_option linter.all false
set_option maxRecDepth 100000
set_option maxHeartbeats 4000000
namespace Ky
open PySem PySem.Spec PySem.W PyProof.Rows L2 Sd
/-- the call of a def that may lay one lambda's code in the table at T -/
theorem spec_callT {P : Program} {w : World} {K : PySem.W.Frag} {mg mb : Str → Option Value} {CX : CXT} {k : Nat} {fa : Addr} {fd : FuncData} {ps : List Str} {sp : Sp} {s₁ : Shared} {vals : List Value} {ds : List WData} {R : PySem.W.WRecords} {cl : Str → Option Addr} {d0 : WData} {c T : Addr}
    (KX : K.In s₁.heap) (hns : s₁.heap.Ns mainGlobals mg) (hb : s₁.heap.Ns builtinsNs mb) (hbb : ∀ x : Str, x ≠ "__name__" → mb x = bootBuiltins x) (hlim : s₁.heap.NoLimit) (hg : s₁.gens = #[]) (hBM : BM mg s₁.heap)
    (hCH : CodeHd s₁.heap c T) (hT : s₁.heap.get? T = some (tabObj #[])) (hKT : K.lookup T = none)
    (hwl : WellAll w.params s₁.heap vals ds) (hpl : plWs ds = true) (hwt : ∀ d ∈ ds, d.weight ≤ 1048576) (hr : Room k callerA)
    (F : ∀ base : Heap, K.In base → base.Ns mainGlobals mg → CodeHd base c T → BM mg base → FnOk P w K mg base CX k fa fd ps sp) (hbind : ∀ (s : Shared) (us : List Value), us.length = ps.length → BindsTo s fd ⟨us, []⟩ (ps.zip us)) (hlen : ds.length = ps.length)
    (hsp : ∀ (H : Hp) (xs : List V), OnlyF H → H T = none → DwAll K H xs ds → sp xs (L2.upd H T (.tbl #[])) (fun v H' => Dw K H' v d0) fun _ _ _ => False)
    (hCX : ∀ H e s', CX [] H s₁ (fun _ _ _ => False) e s' → False) :
    codeAny (model P w) callerA (.call (.ref fa) ⟨vals, []⟩) (fun r s' => ∃ u as, r = .ok (.ret u) ∧ ReadsW R cl s'.heap u d0 as ∧ OldK s₁.heap s'.heap ∧ s'.os = s₁.os ∧ AllBare s'.gens) s₁ := by
  obtain ⟨A, ho, ar⟩ := area_all ds vals hwl hpl hwt
  have hO : OnlyF (argH K s₁.heap A) := argH_only ar
  have hok : HOk P w (argH K s₁.heap A) s₁.heap := argH_ok ar
  have hS := dw_all KX ar ds vals hwl hpl ho
  have hV := vals_toV ho
  have hK : ∀ b u, argH K s₁.heap A b = some u → K.lookup b = none := fun b u q => (argH_is ar q).1
  have noS : ∀ {b : Addr} {o : Obj}, s₁.heap.get? b = some o → (∀ vs : List Value, o.data ≠ .seq vs.toArray) → argH K s₁.heap A b = none := fun {b o} e d => by
    cases q : argH K s₁.heap A b with
    | none => rfl
    | some u =>
      obtain ⟨_, vs, _, _, ⟨e2, _⟩ | ⟨e2, _⟩⟩ := argH_is ar q
      · rw [e2] at e
        cases e
        exact absurd rfl (d vs)
      · rw [e2] at e
        cases e
        exact absurd rfl (d vs)
  have hTn : argH K s₁.heap A T = none := noS hT fun vs z => by cases z
  generalize argH K s₁.heap A = H0 at hO hok hS hK noS hTn
  have hok1 : HOk P w (L2.upd H0 T (.tbl #[])) s₁.heap := fun b u e => by
    by_cases hb : b = T
    · subst hb
      rw [upd_same] at e
      cases e
      exact hT
    · rw [upd_ne hb] at e
      exact (hok b u e).stay (fun _ _ _ q => q) (fun c q => by rw [upd_ne (ne_of_none q hTn)]; exact q) fun c xs q => by rw [upd_ne (ne_of_none q hTn)]; exact q
  have none1 : ∀ {b : Addr}, H0 b = none → b ≠ T → L2.upd H0 T (.tbl #[]) b = none := fun {b} e n => by rw [upd_ne n]; exact e
  have base_of : ∀ {b : Addr} {o : Obj}, s₁.heap.get? b = some o → H0 b = none → b ≠ T → (hidT s₁.heap (L2.upd H0 T (.tbl #[]))).get? b = some o := fun e n h => hidT_get e (none1 n h)
  have neT : ∀ {b : Addr} {o : Obj}, s₁.heap.get? b = some o → o.cls ≠ .none ∨ (∀ vs, o.data ≠ .fields vs) → b ≠ T := fun {b o} e n z => by
    rw [z, hT] at e
    cases e
    rcases n with n | n
    · exact n rfl
    · exact n _ rfl
  have nsK : ∀ {b : Addr} {m : Str → Option Value}, s₁.heap.Ns b m → (hidT s₁.heap (L2.upd H0 T (.tbl #[]))).Ns b m := fun {b m} ⟨o, es, ep, e, d, r⟩ =>
    ⟨o, es, ep, base_of e (noS e fun vs z => by rw [d] at z; cases z) (neT e (.inr fun vs z => by rw [d] at z; cases z)), d, r⟩
  have nK : ∀ b o, K.lookup b = some o → H0 b = none := fun b o e => by
    cases q : H0 b with
    | none => rfl
    | some u =>
      rw [hK b u q] at e
      cases e
  have kT : ∀ b o, K.lookup b = some o → b ≠ T := fun b o e z => by rw [z, hKT] at e; cases e
  have hKb : K.In (hidT s₁.heap (L2.upd H0 T (.tbl #[]))) := fun b o e => base_of (KX b o e) (nK b o e) (kT b o e)
  have hCb : CodeHd (hidT s₁.heap (L2.upd H0 T (.tbl #[]))) c T := by
    obtain ⟨o, vs, file, tf, flags, tg, inF, text, tt, e1, r1, r2, r3⟩ := hCH
    exact ⟨o, vs, file, tf, flags, tg, inF, text, tt, base_of e1 (noS e1 fun us z => by rw [r2] at z; cases z) (neT e1 (.inl (by rw [r1]; simp))), r1, r2, r3⟩
  have hBb : BM mg (hidT s₁.heap (L2.upd H0 T (.tbl #[]))) := by
    obtain ⟨bm, ob, b1, b2, b3, b4, b5, b6⟩ := hBM
    exact ⟨bm, ob, b1, b2, base_of b3 (noS b3 fun us z => by rw [b6] at z; cases z) (neT b3 (.inl (by rw [b4]; simp))), b4, b5, b6⟩
  have hM : Mod K mg (hidT s₁.heap (L2.upd H0 T (.tbl #[]))) := ⟨hKb, nsK hns, ⟨mb, nsK hb, hbb⟩, let ⟨mc, h1, h2⟩ := hlim; ⟨mc, nsK h1, h2⟩⟩
  have e0 : Env0 P w K mg (hidT s₁.heap (L2.upd H0 T (.tbl #[]))) callerA [] s₁ (L2.upd H0 T (.tbl #[])) := ⟨rfl, hM, fun b o e => of_hidT e, Nat.le_of_eq (hidT_size _ _), trivial, fun b hb => absurd (show b ∈ ([] : List Addr) from hb) (by simp), hok1, .of_eq hg⟩
  have hl : vals.length = ps.length := by rw [wellAll_len hwl]; exact hlen
  refine codeAny_mono ((F _ hKb (nsK hns) hCb hBb).run callerA [] s₁ (L2.upd H0 T (.tbl #[])) ⟨vals, []⟩ vals (vals.map toV) _ _ hr e0 (hbind s₁ vals hl) hV (hsp H0 _ hO hTn hS)) fun r s' x => ?_
  cases r with
  | error e => exact (hCX _ e s' x).elim
  | ok fl =>
    cases fl with
    | next => exact False.elim x
    | brk => exact False.elim x
    | cont => exact False.elim x
    | ret u =>
      obtain ⟨v, H', os, bare, un, hok', r', q⟩ := x
      have kept : ∀ b o, b ≠ T → s₁.heap.get? b = some o → s'.heap.get? b = some o := fun b o hbT e => by
        cases q2 : H0 b with
        | none => exact un.keep b o e (none1 q2 hbT) (by intro z; exact absurd (show b ∈ ([] : List Addr) from z) (by simp)) (by simp)
        | some u2 =>
          rcases hO b with z | ⟨ob, u3, z⟩
          · rw [q2] at z
            cases z
          · have z2 := un.frzs b ob _ (by rw [upd_ne hbT]; exact z)
            obtain ⟨e1, _⟩ := hok b _ z
            obtain ⟨e2, _⟩ := hok' b _ z2
            rw [e] at e1
            cases e1
            exact e2
      obtain ⟨more, hmore⟩ := un.tbls T #[] upd_same
      have hT' : s'.heap.get? T = some { cls := .none, data := .fields (#[] ++ more) } := hok' T _ hmore
      have KX' : K.In s'.heap := fun b o e => kept b o (kT b o e) (KX b o e)
      obtain ⟨as, hrd⟩ := Dw.reads (R := R) (cl := cl) hok' KX' d0 v u q r'
      refine ⟨u, as, rfl, hrd, ⟨fun b o e => ?_, fun b o e => ?_⟩, os, bare⟩
      · by_cases hbT : b = T
        · subst hbT
          rw [hT] at e
          cases e
          exact .inr (.inl ⟨(hCH.tab hT).isCodeTable, rfl, #[], more, rfl, hT'⟩)
        · exact .inl (kept b o hbT e)
      · by_cases hbT : b = T
        · subst hbT
          exact ⟨_, hT'⟩
        · exact ⟨o, kept b o hbT e⟩
/-- the row, for such a def: x the def in whose code the lambda stands -/
theorem walk_specT {r : OpenSpec} {k : Nat} {q : Program} {loose : List Str} {XP : (Str → Option Value) → Heap → Prop} {YP : World → Heap → Prop} {d : DefRec} {K : Params → PySem.W.Frag} {CX : CXT} {ps : List Str} {sp : Addr → PySem.W.Frag → Sp} {x : Str} {dx : DefRec} {c T : Addr}
    (hwell : r.wellSaid = true) (hdf : d.params.defaults = []) (hlen : r.args.length = ps.length) (hr : Room k callerA)
    (hY : ∀ (w : World) (h : Heap), YP w h → (K w.params).In h) (hx : (recsOf q).find? (fun e => e.name == x) = some dx) (htab : ∀ w : World, tabIn (K w.params) x = some (c, T)) (hKT : ∀ w : World, (K w.params).lookup T = none)
    (F : ∀ (w : World) (mg : Str → Option Value) (fa : Addr) (h : Heap), YP w h → (K w.params).In h → h.Ns mainGlobals mg → mg d.name = some (.ref fa) →
      ∃ fd : FuncData, (∀ (s : Shared) (us : List Value), us.length = ps.length → BindsTo s fd ⟨us, []⟩ (ps.zip us)) ∧
        ∀ base : Heap, (K w.params).In base → base.Ns mainGlobals mg → CodeHd base c T → BM mg base → FnOk r.prog w (K w.params) mg base CX k fa fd ps (sp T (K w.params)))
    (hsp : ∀ (K : PySem.W.Frag) (H : Hp) (xs : List V) (a : Codec.denoteAll r.args), OnlyF H → H T = none → Codec.withinAll r.args a = true → Codec.app r.args r.asked a = true → DwAll K H xs (Codec.encAll r.args a) →
      sp T K xs (L2.upd H T (.tbl #[])) (fun v H' => Dw K H' v (r.ret.enc (Codec.app r.args r.f a))) fun _ _ _ => False)
    (hCX : ∀ (H : Hp) (s : Shared) (e : Value) (s' : Shared), CX [] H s (fun _ _ _ => False) e s' → False) :
    PySem.W.WalkOS q loose XP YP r d [] (fun f vs => PySem.call f vs) := by
  intro w s_0 s₁ mg mb G Y fa o pm cd doc dV kV ho hd hcd hD hmg hg args vals as hpre hlay hrd hwl hlo
  obtain ⟨a, e1, e2⟩ := PySem.W.os_pre_some hpre
  obtain ⟨e3, hwi⟩ := Codec.encAll_of_decAll r.args args a e1
  subst e3
  have KX := hY w _ Y
  obtain ⟨fd, hb, hF⟩ := F w mg fa _ Y KX G.T.g hmg
  have ht := tab_of G.T KX hx (htab w)
  refine PySem.W.enter_call (codeAny_mono (spec_callT (R := []) (cl := classAt s_0.heap) (d0 := r.ret.enc (Codec.app r.args r.f a)) KX G.T.g G.T.b G.T.builtins G.T.nolimit hg G.T.bmain ht.1 ht.2 (hKT w) hwl (pl_encAll _ _) (layable_weight hlay) hr hF hb (by rw [encAll_len]; exact hlen)
    (fun H xs hO hn hS => hsp _ H xs a hO hn hwi e2 hS) fun H e s' => hCX H s₁ e s') fun r' s' hq => ?_)
  obtain ⟨u, as', rfl, h1, h2, h3, h4⟩ := hq
  exact ⟨.inl ⟨u, _, as', rfl, fun _ => rfl, h1, (OpenSpec.post_iff hwell hwi _ _).mpr rfl, fun z => Bool.noConfusion (show false = true from z)⟩, h2, h3, h4⟩
end Ky
end

section
set_option Elab.async false
set_option linter.all false
set_option maxRecDepth 100000
set_option maxHeartbeats 2000000
namespace Sd
open PySem PySem.Spec PyProof.Rows L2
theorem fm_some {α β : Type} (f : α → β) : ∀ l : List α, l.filterMap (fun z => some (f z)) = l.map f
  | [] => rfl
  | a :: l => by rw [List.filterMap_cons, List.map_cons, fm_some f l]
theorem size_up {n m L : Nat} (hn : 0 < n) (h : L = m * n) : Builtin.Range.rangeSize 0 (L : Int) (n : Int) = m := by
  rw [PyProof.Rows.rangeSize_pos (by omega) (by omega), h]
  have e : ((m * n : Nat) : Int) + (n : Int) - 1 = ((n : Int) - 1) + (m : Int) * (n : Int) := by rw [Int.natCast_mul]; omega
  rw [e, Int.add_mul_ediv_right _ _ (by omega), Int.ediv_eq_zero_of_lt (by omega) (by omega), Int.zero_add]
/-- range(0, L, n), where L is m times n -/
theorem rg_up {n m L : Nat} (hn : 0 < n) (hn1 : n ≤ 1000) (h : L = m * n) (hL : L ≤ 1000) : RgC 0 (L : Int) (n : Int) m := by
  refine ⟨by omega, by omega, ?_, size_up hn h⟩
  unfold Builtin.Range.small
  rw [size_up hn h]
  have hm : m ≤ 1000 := by have := Nat.le_mul_of_pos_right m hn; omega
  simp only [Builtin.Range.rangeFitsLong, Bool.and_eq_true, Bool.or_eq_true, decide_eq_true_eq, beq_iff_eq, show ((n : Int) > 0) by omega, if_true]
  omega
theorem cut_at {n m i : Nat} {ns : List Int} (hi : i < m) (h : ns.length = m * n) : cutV (ns.map V.int) (some (0 + (i : Int) * n)) (some (0 + (i : Int) * n + n)) = ((ns.drop (i * n)).take n).map V.int := by
  have e1 : (0 + (i : Int) * n) = ((i * n : Nat) : Int) := by rw [Int.natCast_mul]; omega
  have e2 : ((i * n : Nat) : Int) + (n : Int) = ((i * n + n : Nat) : Int) := by rw [Int.natCast_add]
  have hle : i * n + n ≤ m * n := by rw [← Nat.succ_mul]; exact Nat.mul_le_mul_right n hi
  unfold cutV
  rw [e1, e2, HT.sIx_nat, HT.sIx_nat, List.length_map, h, Nat.min_eq_left hle, Nat.min_eq_left (Nat.le_trans (Nat.le_add_right _ _) hle), ← List.map_drop, ← List.map_take, Nat.add_sub_cancel_left]
theorem yes_k {te : TE} {σ : L2.St} {H : Hp} {Ky : V → Hp → Prop} {Kn : Hp → Prop} (h : te σ H Ky) : tYes σ H fun b H3 => if b = true then te σ H3 Ky else Kn H3 := by
  show (if true = true then te σ H Ky else Kn H)
  rw [if_pos rfl]
  exact h
end Sd
/-! ### what each def promises -/
namespace Sd
open PySem PySem.Spec PyProof.Rows L2
/-- small numbers, as the program asks -/
def inR (n : Int) : Bool := decide (-1000 ≤ n) && decide (n ≤ 1000)
def fitN (size : Int) (ns : List Int) : Bool := decide ((ns.length : Int) = size) && ns.all inR
def fitS (d : Int) (ns : List Int) : Bool := (decide (1 ≤ d) && decide (d ≤ 3)) && (decide ((ns.length : Int) / (d + 1) ≤ 8) && fitN ((ns.length : Int) / (d + 1) * (d + 1)) ns)
def spRefusal : Sp := fun vs H Q _ => vs = [] ∧ ∀ p, H p = none → Q (.ref p) (upd H p (.lst [.int (-1)]))
def spYes : Sp := fun vs H Q _ => ∃ b : Bool, vs = [.bl b] ∧ ∀ p, H p = none → Q (.ref p) (upd H p (.lst [.int (if b = true then 1 else 0)]))
def spUnknowns : Sp := fun vs H Q _ => ∃ d : Int, vs = [.int d] ∧ Q (.bl (decide (1 ≤ d) && decide (d ≤ 3))) H
def spDivisor : Sp := fun vs H Q _ => ∃ d : Int, vs = [.int d] ∧ Q (.bl (decide (1 ≤ d) && decide (d ≤ 1000))) H
/-- numbers from lo to hi, so many -/
def inB (lo hi n : Int) : Bool := decide (lo ≤ n) && decide (n ≤ hi)
def fitR (size lo hi : Int) (ns : List Int) : Bool := decide ((ns.length : Int) = size) && ns.all (inB lo hi)
def spRow (K : PySem.W.Frag) : Sp := fun vs H Q _ => ∃ (a : Addr) (size lo hi : Int) (ns : List Int), vs = [.ref a, .int size, .int lo, .int hi] ∧ Ints K H a ns ∧ ns.length ≤ 1000 ∧ ∀ H', Same H H' → Q (.bl (fitR size lo hi ns)) H'
def spTimes (K : PySem.W.Frag) : Sp := fun vs H Q _ => ∃ (a : Addr) (size : Int) (ns : List Int), vs = [.ref a, .int size] ∧ Ints K H a ns ∧ ns.length ≤ 1000 ∧ ∀ H', Same H H' → Q (.bl (fitR size 0 1000000000 ns)) H'
def spNumbers (K : PySem.W.Frag) : Sp := fun vs H Q _ => ∃ (a : Addr) (size : Int) (ns : List Int), vs = [.ref a, .int size] ∧ Ints K H a ns ∧ ns.length ≤ 1000 ∧ ∀ H', Same H H' → Q (.bl (fitN size ns)) H'
def spSides (K : PySem.W.Frag) : Sp := fun vs H Q _ => ∃ (d : Int) (a : Addr) (ns : List Int), vs = [.int d, .ref a] ∧ Ints K H a ns ∧ ns.length ≤ 1000 ∧ ∀ H', Same H H' → Q (.bl (fitS d ns)) H'
/-- so many rows of size numbers each -/
def fitRs (size lo hi : Int) (ns : List Int) : Bool := (decide (lo ≤ (ns.length : Int) / size) && decide ((ns.length : Int) / size ≤ hi)) && fitN ((ns.length : Int) / size * size) ns
def fitP (d : Int) (ns : List Int) : Bool := (decide (1 ≤ d) && decide (d ≤ 3)) && fitRs d 1 6 ns
theorem fitRs_sides {d : Int} {ns : List Int} (h : 1 ≤ d) : fitRs (d + 1) 0 8 ns = (decide ((ns.length : Int) / (d + 1) ≤ 8) && fitN ((ns.length : Int) / (d + 1) * (d + 1)) ns) := by
  unfold fitRs
  rw [decide_eq_true (show (0 : Int) ≤ (ns.length : Int) / (d + 1) from Int.ediv_nonneg (by omega) (by omega)), Bool.true_and]
def spFitRows (K : PySem.W.Frag) : Sp := fun vs H Q _ => ∃ (a : Addr) (size lo hi : Int) (ns : List Int), vs = [.ref a, .int size, .int lo, .int hi] ∧ 1 ≤ size ∧ size ≤ 1000 ∧ Ints K H a ns ∧ ns.length ≤ 1000 ∧ ∀ H', Same H H' → Q (.bl (fitRs size lo hi ns)) H'
def spFitPts (K : PySem.W.Frag) : Sp := fun vs H Q _ => ∃ (d : Int) (a : Addr) (ns : List Int), vs = [.int d, .ref a] ∧ Ints K H a ns ∧ ns.length ≤ 1000 ∧ ∀ H', Same H H' → Q (.bl (fitP d ns)) H'
/-- m pieces of size n of a list of m * n numbers -/
def pieces (n m : Nat) (ns : List Int) : List (List Int) := (List.range m).map fun i => (ns.drop (i * n)).take n
def spCut (K : PySem.W.Frag) : Sp := fun vs H Q _ => ∃ (a : Addr) (n m : Nat) (ns : List Int), vs = [.ref a, .int n] ∧ 0 < n ∧ n ≤ 1000 ∧ ns.length = m * n ∧ ns.length ≤ 1000 ∧ Ints K H a ns ∧ ∀ (H' : Hp) (p : Addr), Same H H' → H p = none → RowsT H' p (pieces n m ns) → Q (.ref p) H'
end Sd
namespace Sd
open PySem PySem.Spec PyProof.Rows L2
theorem foldl_sum : ∀ (l : List Int) (s : Int), l.foldl (fun (s x : Int) => s + x) s = s + l.sum
  | [], s => by simp
  | a :: l, s => by rw [List.foldl_cons, foldl_sum l, List.sum_cons]; omega
theorem total_sum (l : List Int) : Sf64.total l = l.sum := by
  unfold Sf64.total; rw [foldl_sum]; omega
theorem zip_map_range {γ : Type} {α β : Type} (f : α → β → γ) (da : α) (db : β) : ∀ (a : List α) (x : List β), a.length = x.length → (a.zip x).map (fun p => f p.1 p.2) = (List.range a.length).map fun i => f (a.getD i da) (x.getD i db)
  | [], [], _ => rfl
  | a :: l, x :: m, h => by
    have ih := zip_map_range f da db l m (by simpa using h)
    rw [List.zip_cons_cons, List.map_cons, ih, List.length_cons, List.range_succ_eq_map, List.map_cons, List.map_map]
    rfl
theorem dot_range {a x : List Int} (h : a.length = x.length) : Sf64.dot a x = ((List.range x.length).map fun i => a.getD i 0 * x.getD i 0).sum := by
  unfold Sf64.dot
  rw [total_sum, zip_map_range (fun (u v : Int) => u * v) 0 0 a x h, h]
theorem getD_map {α β : Type} (f : α → β) {l : List α} {i : Nat} {d : α} (h : i < l.length) : (l.map f)[i]? = some (f (l.getD i d)) := by
  rw [List.getElem?_map, List.getElem?_eq_getElem h]
  simp [List.getD, h]
theorem getD_mem {α : Type} {l : List α} {i : Nat} {d : α} (h : i < l.length) : l.getD i d ∈ l := by
  rw [List.getD_eq_getElem?_getD, List.getElem?_eq_getElem h]
  exact List.getElem_mem h
theorem getD_app {α : Type} {l : List α} {b d : α} {i : Nat} (h : i < l.length) : (l ++ [b]).getD i d = l.getD i d := by
  rw [List.getD_eq_getElem?_getD, List.getElem?_append_left h, ← List.getD_eq_getElem?_getD]
theorem at_last {l : List Int} {b : Int} : ((l ++ [b]).map V.int)[l.length]? = some (V.int b) := by
  rw [List.getElem?_map, List.getElem?_append_right (Nat.le_refl _)]
  simp
/-- sides as the program holds them -/
theorem pieces_flat {d m : Nat} {l : List Int} (h : l.length = m * (d + 1)) : pieces (d + 1) m l = (Sf64.rowsOf d m l).map Sf64.flat := by
  unfold pieces Sf64.rowsOf
  rw [List.map_map]
  refine List.map_congr_left fun i hi => ?_
  have hi := List.mem_range.mp hi
  have hle : i * (d + 1) + (d + 1) ≤ m * (d + 1) := by rw [← Nat.succ_mul]; exact Nat.mul_le_mul_right _ hi
  show _ = (l.drop (i * (d + 1))).take d ++ [l.getD (i * (d + 1) + d) 0]
  rw [List.take_succ, List.getElem?_drop, List.getD_eq_getElem?_getD, List.getElem?_eq_getElem (by omega)]
  rfl
theorem rowsOf_len {d m : Nat} {l : List Int} (h : l.length = m * (d + 1)) : ∀ r ∈ Sf64.rowsOf d m l, r.a.length = d := by
  intro r hr
  unfold Sf64.rowsOf at hr
  obtain ⟨i, hi, rfl⟩ := List.mem_map.mp hr
  have hi := List.mem_range.mp hi
  have hle : i * (d + 1) + (d + 1) ≤ m * (d + 1) := by rw [← Nat.succ_mul]; exact Nat.mul_le_mul_right _ hi
  show ((l.drop (i * (d + 1))).take d).length = d
  rw [List.length_take, List.length_drop]
  omega
theorem rowsOf_mem {d m : Nat} {l : List Int} (h : l.length = m * (d + 1)) : ∀ r ∈ Sf64.rowsOf d m l, ∀ z ∈ Sf64.flat r, z ∈ l := by
  intro r hr z hz
  unfold Sf64.rowsOf at hr
  obtain ⟨i, hi, rfl⟩ := List.mem_map.mp hr
  have hi := List.mem_range.mp hi
  have hle : i * (d + 1) + (d + 1) ≤ m * (d + 1) := by rw [← Nat.succ_mul]; exact Nat.mul_le_mul_right _ hi
  unfold Sf64.flat at hz
  rcases List.mem_append.mp hz with q | q
  · exact List.mem_of_mem_drop (List.mem_of_mem_take q)
  · have e := List.mem_singleton.mp q
    rw [e]
    exact getD_mem (by omega)
theorem rowsOf_length (d m : Nat) (l : List Int) : (Sf64.rowsOf d m l).length = m := by
  unfold Sf64.rowsOf
  rw [List.length_map, List.length_range]
theorem small_inR (l : List Int) : Sf64.small l = l.all inR := by
  unfold Sf64.small
  congr 1
  funext z
  unfold inR
  rw [← Bool.decide_and]
  exact decide_eq_decide.mpr (by show z.natAbs ≤ 1000 ↔ _; omega)
/-- the program's look at sides is the specification's -/
theorem fitS_eq (d : Int) (l : List Int) : fitS d l = Se02.sidesOk d l := by
  unfold fitS Se02.sidesOk Sf64.within fitN
  show ((decide (1 ≤ d) && decide (d ≤ 3)) && _) = ((decide (1 ≤ d) && decide (d ≤ 3)) && _)
  by_cases h : 1 ≤ d ∧ d ≤ 3
  · rw [decide_eq_true h.1, decide_eq_true h.2, small_inR]
    obtain ⟨n, rfl⟩ : ∃ n : Nat, d = n := ⟨d.toNat, by omega⟩
    have e1 : ((l.length : Int) / ((n : Int) + 1)) = ((l.length / (n + 1) : Nat) : Int) := by rw [Int.natCast_ediv]; rfl
    have e2 : (n : Int).toNat = n := rfl
    rw [e1, e2]
    have e3 : decide ((((l.length / (n + 1) : Nat) : Int)) ≤ 8) = decide (l.length / (n + 1) ≤ Se02.SIDES) := decide_eq_decide.mpr (by show _ ↔ l.length / (n + 1) ≤ 8; omega)
    have e4 : decide ((l.length : Int) = ((l.length / (n + 1) : Nat) : Int) * ((n : Int) + 1)) = (l.length % (n + 1) == 0) := by
      rw [Bool.eq_iff_iff]
      simp only [decide_eq_true_eq, beq_iff_eq]
      have q := Nat.div_add_mod l.length (n + 1)
      have e : ((l.length / (n + 1) : Nat) : Int) * ((n : Int) + 1) = ((n + 1) * (l.length / (n + 1)) : Nat) := by rw [Int.natCast_mul, Int.mul_comm]; rfl
      rw [e]
      omega
    rw [e3, e4]
    cases decide (l.length / (n + 1) ≤ Se02.SIDES) <;> cases (l.length % (n + 1) == 0) <;> simp
  · have e : (decide (1 ≤ d) && decide (d ≤ 3)) = false := by
      rw [← Bool.decide_and]
      exact decide_eq_false h
    rw [e, Bool.false_and, Bool.false_and]
/-- what is known of sides that are not refused -/
structure Good (d : Int) (l : List Int) (n m : Nat) : Prop where
  dn : d = n
  lo : 1 ≤ n
  hi : n ≤ 3
  len : l.length = m * (n + 1)
  few : m ≤ 8
  all : ∀ z ∈ l, -1000 ≤ z ∧ z ≤ 1000
  sides : Se02.sidesOf d l = Sf64.rowsOf n m l
theorem inR_iff {z : Int} : inR z = true ↔ -1000 ≤ z ∧ z ≤ 1000 := by
  unfold inR
  rw [Bool.and_eq_true, decide_eq_true_eq, decide_eq_true_eq]
theorem good_of {d : Int} {l : List Int} (h : fitS d l = true) : ∃ n m, Good d l n m := by
  unfold fitS fitN at h
  simp only [Bool.and_eq_true, decide_eq_true_eq, List.all_eq_true] at h
  obtain ⟨⟨h1, h2⟩, h3, h4, h5⟩ := h
  obtain ⟨n, rfl⟩ : ∃ n : Nat, d = n := ⟨d.toNat, by omega⟩
  have e1 : ((l.length : Int) / ((n : Int) + 1)) = ((l.length / (n + 1) : Nat) : Int) := by rw [Int.natCast_ediv]; rfl
  rw [e1] at h3 h4
  refine ⟨n, l.length / (n + 1), rfl, by omega, by omega, ?_, by omega, fun z hz => inR_iff.mp (h5 z hz), rfl⟩
  have e : ((l.length / (n + 1) : Nat) : Int) * ((n : Int) + 1) = ((l.length / (n + 1) * (n + 1) : Nat) : Int) := by rw [Int.natCast_mul]; rfl
  rw [e] at h4
  omega
end Sd
namespace Sd
open PySem PySem.Spec PyProof.Rows L2
theorem rows_items {K : PySem.W.Frag} {H : Hp} : ∀ {as : List Addr} {A : List Sf64.Row}, Paired (fun a r => Ints K H a r) as (A.map Sf64.flat) → Paired (fun (v : V) (r : Sf64.Row) => ∃ a, v = V.ref a ∧ Ints K H a (Sf64.flat r)) (as.map V.ref) A
  | [], [], _ => .nil
  | _ :: _, _ :: _, .cons q t => .cons ⟨_, rfl, q⟩ (rows_items t)
theorem pointOk_eq {d : Int} {xs : List Int} (hd : 0 ≤ d) : fitN d xs = Se02.pointOk d xs := by
  unfold fitN Se02.pointOk
  rw [small_inR]
  congr 1
  rw [Bool.eq_iff_iff]
  simp only [decide_eq_true_eq, beq_iff_eq]
  omega
theorem meets_all_eq (d q : Int) (l xs : List Int) : (fitS d l && (fitN d xs && (decide (1 ≤ q) && decide (q ≤ 1000)))) = (Se02.sidesOk d l && (Se02.pointOk d xs && Sf64.within q 1 Sf64.SIZE)) := by
  rw [← fitS_eq]
  by_cases h : fitS d l = true
  · obtain ⟨n, m, G⟩ := good_of h
    rw [pointOk_eq (by have := G.dn; omega)]
    rfl
  · rw [Bool.eq_false_iff.mpr h, Bool.false_and, Bool.false_and]
theorem meets_bad {d q : Int} {l xs : List Int} (h : (fitS d l && (fitN d xs && (decide (1 ≤ q) && decide (q ≤ 1000)))) = false) : PySe02.meets d q l xs = [-1] := by
  rw [meets_all_eq] at h
  show (Se02.does (.meets d q l xs)).value :: (Se02.does (.meets d q l xs)).out = [-1]
  unfold Se02.does
  simp only [h]
  rfl
theorem meets_good {d q : Int} {l xs : List Int} {n m : Nat} (G : Good d l n m) (c1 : fitS d l = true) (c2 : fitN d xs = true) (c3 : (decide (1 ≤ q) && decide (q ≤ 1000)) = true) :
    PySe02.meets d q l xs = [if ((Sf64.rowsOf n m l).all fun r => decide (Sf64.dot r.a xs ≤ r.b * q)) = true then 1 else 0] := by
  have h := meets_all_eq d q l xs
  rw [c1, c2, c3] at h
  show (Se02.does (.meets d q l xs)).value :: (Se02.does (.meets d q l xs)).out = _
  unfold Se02.does
  simp only [← h]
  rw [G.sides]
  have hq : ((q.toNat : Nat) : Int) = q := by
    rw [Bool.and_eq_true] at c3
    have := of_decide_eq_true c3.1
    omega
  unfold Se02.truth Se02.one Se02.meets
  simp only [hq]
  rfl
end Sd
namespace Sd
open PySem PySem.Spec PyProof.Rows L2
/-- no number is greater than B, either way -/
def BdN (B : Nat) (l : List Int) : Prop := ∀ z ∈ l, z.natAbs ≤ B
theorem flat_len {r : Sf64.Row} {n : Nat} (h : r.a.length = n) : (Sf64.flat r).length = n + 1 := by
  unfold Sf64.flat; rw [List.length_append, h]; rfl
theorem flat_get {r : Sf64.Row} {k n : Nat} (h : r.a.length = n) (hk : k < n) : ((Sf64.flat r).map V.int)[k]? = some (V.int (r.a.getD k 0)) := by
  rw [getD_map V.int (d := 0) (by rw [flat_len h]; omega)]
  unfold Sf64.flat
  rw [getD_app (by omega)]
theorem flat_mem {r : Sf64.Row} {k n : Nat} (h : r.a.length = n) (hk : k < n) : r.a.getD k 0 ∈ Sf64.flat r := List.mem_append_left _ (getD_mem (by omega))
theorem joined_flat {k n : Nat} {r s : Sf64.Row} (hr : r.a.length = n) (hs : s.a.length = n) :
    Sf64.flat (Sf64.joined k r s) = (List.range (n + 1)).map fun i => (Sf64.flat r).getD i 0 * -(s.a.getD k 0) + (Sf64.flat s).getD i 0 * r.a.getD k 0 := by
  have e := zip_map_range (fun (x y : Int) => x * -(s.a.getD k 0) + y * r.a.getD k 0) 0 0 (Sf64.flat r) (Sf64.flat s) (by rw [flat_len hr, flat_len hs])
  rw [flat_len hr] at e
  rw [← e]
  unfold Sf64.flat Sf64.joined
  rw [List.zip_append (by omega), List.map_append]
  congr 1
  · refine List.map_congr_left fun p _ => ?_
    rw [Int.mul_comm p.1, Int.mul_comm p.2]
  · show [-(s.a.getD k 0) * r.b + r.a.getD k 0 * s.b] = [r.b * -(s.a.getD k 0) + s.b * r.a.getD k 0]
    rw [Int.mul_comm r.b, Int.mul_comm s.b]
theorem joined_len {k n : Nat} {r s : Sf64.Row} (hr : r.a.length = n) (hs : s.a.length = n) : (Sf64.joined k r s).a.length = n := by
  show ((r.a.zip s.a).map _).length = n
  rw [List.length_map, List.length_zip, hr, hs, Nat.min_self]
theorem mul_bd {B : Nat} {x y : Int} (hx : x.natAbs ≤ B) (hy : y.natAbs ≤ B) : (x * y).natAbs ≤ B * B := by
  rw [Int.natAbs_mul]
  exact Nat.mul_le_mul hx hy
theorem getD_bd {B : Nat} {l : List Int} (h : BdN B l) (i : Nat) : (l.getD i 0).natAbs ≤ B := by
  by_cases hi : i < l.length
  · exact h _ (getD_mem hi)
  · rw [List.getD_eq_getElem?_getD, List.getElem?_eq_none (by omega)]
    exact Nat.zero_le _
theorem joined_bd {B k n : Nat} {r s : Sf64.Row} (hr : r.a.length = n) (hs : s.a.length = n) (hk : k < n) (br : BdN B (Sf64.flat r)) (bs : BdN B (Sf64.flat s)) : BdN (2 * (B * B)) (Sf64.flat (Sf64.joined k r s)) := by
  rw [joined_flat hr hs]
  intro z hz
  obtain ⟨i, _, rfl⟩ := List.mem_map.mp hz
  have h1 := mul_bd (getD_bd br i) (y := -(s.a.getD k 0)) (by rw [Int.natAbs_neg]; exact bs _ (flat_mem hs hk))
  have h2 := mul_bd (getD_bd bs i) (br _ (flat_mem hr hk))
  refine Nat.le_trans (Int.natAbs_add_le _ _) ?_
  omega
/-- rows of one length, bounded, few -/
structure Fit (n B L : Nat) (A : List Sf64.Row) : Prop where
  len : ∀ r ∈ A, r.a.length = n
  bd : ∀ r ∈ A, BdN B (Sf64.flat r)
  few : A.length ≤ L
theorem flatMap_le {α β : Type} {f : α → List β} {c : Nat} : ∀ {l : List α}, (∀ a ∈ l, (f a).length ≤ c) → (l.flatMap f).length ≤ l.length * c
  | [], _ => by simp
  | a :: l, h => by
    rw [List.flatMap_cons, List.length_append, List.length_cons, Nat.succ_mul]
    have h1 := h a (List.mem_cons_self ..)
    have h2 := flatMap_le (l := l) fun b hb => h b (List.mem_cons_of_mem _ hb)
    omega
theorem filter_two {α : Type} {p q : α → Bool} (h : ∀ a, p a = true → q a = false) : ∀ l : List α, (l.filter p).length + (l.filter q).length ≤ l.length
  | [] => by simp
  | a :: l => by
    have ih := filter_two h l
    rw [List.filter_cons, List.filter_cons, List.length_cons]
    cases e : p a with
    | true =>
      rw [h a e]
      simp only [if_true, Bool.false_eq_true, if_false, List.length_cons]
      omega
    | false =>
      simp only [Bool.false_eq_true, if_false]
      split
      · rw [List.length_cons]; omega
      · omega
theorem four_mul (x y : Nat) : 4 * (x * y) ≤ (x + y) * (x + y) := by
  rcases Nat.le_total x y with h | h
  · obtain ⟨d, rfl⟩ := Nat.exists_eq_add_of_le h
    have e : (x + (x + d)) * (x + (x + d)) = 4 * (x * (x + d)) + d * d := by
      simp only [Nat.mul_add, Nat.add_mul]
      rw [Nat.mul_comm d x]
      omega
    omega
  · obtain ⟨d, rfl⟩ := Nat.exists_eq_add_of_le h
    have e : (y + d + y) * (y + d + y) = 4 * ((y + d) * y) + d * d := by
      simp only [Nat.mul_add, Nat.add_mul]
      rw [Nat.mul_comm d y]
      omega
    omega
theorem drop_fit {n B L k : Nat} {A : List Sf64.Row} (F : Fit n B L A) (hk : k < n) (hB : B ≤ 2 * (B * B)) : Fit n (2 * (B * B)) (L + L * L / 4) (Sf64.drop A k) := by
  refine ⟨fun r hr => ?_, fun r hr => ?_, ?_⟩
  · unfold Sf64.drop at hr
    rcases List.mem_append.mp hr with q | q
    · exact F.len r (List.mem_filter.mp q).1
    · obtain ⟨x, hx, q⟩ := List.mem_flatMap.mp q
      obtain ⟨y, hy, rfl⟩ := List.mem_map.mp q
      exact joined_len (F.len x (List.mem_filter.mp hx).1) (F.len y (List.mem_filter.mp hy).1)
  · unfold Sf64.drop at hr
    rcases List.mem_append.mp hr with q | q
    · exact fun z hz => Nat.le_trans (F.bd r (List.mem_filter.mp q).1 z hz) hB
    · obtain ⟨x, hx, q⟩ := List.mem_flatMap.mp q
      obtain ⟨y, hy, rfl⟩ := List.mem_map.mp q
      have hx := (List.mem_filter.mp hx).1
      have hy := (List.mem_filter.mp hy).1
      exact joined_bd (F.len x hx) (F.len y hy) hk (F.bd x hx) (F.bd y hy)
  · unfold Sf64.drop
    rw [List.length_append]
    have h1 := List.length_filter_le (fun (r : Sf64.Row) => r.a.getD k 0 == 0) A
    have h2 := flatMap_le (f := fun (r : Sf64.Row) => (A.filter fun (s : Sf64.Row) => decide (s.a.getD k 0 < 0)).map fun (s : Sf64.Row) => Sf64.joined k r s) (l := A.filter fun (r : Sf64.Row) => decide (0 < r.a.getD k 0)) (c := (A.filter fun (s : Sf64.Row) => decide (s.a.getD k 0 < 0)).length) fun a _ => Nat.le_of_eq (List.length_map ..)
    have h3 := filter_two (p := fun (r : Sf64.Row) => decide (0 < r.a.getD k 0)) (q := fun (s : Sf64.Row) => decide (s.a.getD k 0 < 0)) (fun a h => decide_eq_false (by have := of_decide_eq_true h; omega)) A
    have h4 := four_mul (A.filter fun (r : Sf64.Row) => decide (0 < r.a.getD k 0)).length (A.filter fun (s : Sf64.Row) => decide (s.a.getD k 0 < 0)).length
    have h5 : A.length * A.length ≤ L * L := Nat.mul_le_mul F.few F.few
    have h6 := Nat.mul_le_mul h3 h3
    have h7 := F.few
    omega
def Bn : Nat → Nat
  | 0 => 2000
  | i + 1 => 2 * (Bn i * Bn i)
def Ln : Nat → Nat
  | 0 => 9
  | i + 1 => Ln i + Ln i * Ln i / 4
theorem Bn_pos : ∀ i, 1 ≤ Bn i
  | 0 => by decide
  | i + 1 => by
    have := Bn_pos i
    have := Nat.mul_le_mul this this
    show 1 ≤ 2 * (Bn i * Bn i)
    omega
theorem Bn_up (i : Nat) : Bn i ≤ 2 * (Bn i * Bn i) := by
  have := Nat.le_mul_of_pos_right (Bn i) (Bn_pos i)
  omega
theorem dropAll_snoc (A : List Sf64.Row) (i : Nat) : Se02.dropAll A (List.range (i + 1)) = Sf64.drop (Se02.dropAll A (List.range i)) i := by
  unfold Se02.dropAll
  rw [List.range_succ, List.foldl_append]
  rfl
theorem dropAll_fit {n : Nat} {A : List Sf64.Row} (F : Fit n (Bn 0) (Ln 0) A) : ∀ i, i ≤ n → Fit n (Bn i) (Ln i) (Se02.dropAll A (List.range i))
  | 0, _ => F
  | i + 1, h => by
    rw [dropAll_snoc]
    exact drop_fit (dropAll_fit F i (by omega)) h (Bn_up i)
theorem small_BL {i : Nat} (h : i < 3) : Bn i ≤ 4611686018427387904 ∧ Ln i ≤ 1000 := by
  match i, h with
  | 0, _ => exact ⟨by decide, by decide⟩
  | 1, _ => exact ⟨by decide, by decide⟩
  | 2, _ => exact ⟨by decide, by decide⟩
theorem small_L3 {i : Nat} (h : i ≤ 3) : Ln i ≤ 100000 := by
  match i, h with
  | 0, _ => decide
  | 1, _ => decide
  | 2, _ => decide
  | 3, _ => decide
theorem fit_rows {d : Int} {l : List Int} {n m : Nat} (G : Good d l n m) : Fit n (Bn 0) (Ln 0) (Sf64.rowsOf n m l) := by
  refine ⟨rowsOf_len G.len, fun r hr z hz => ?_, by rw [rowsOf_length]; have := G.few; show m ≤ 9; omega⟩
  have := G.all z (rowsOf_mem G.len r hr z hz)
  show z.natAbs ≤ 2000
  omega
theorem fm_filter {α : Type} (p : α → Bool) : ∀ l : List α, l.filterMap (fun a => if p a = true then some a else none) = l.filter p
  | [] => rfl
  | a :: l => by
    rw [List.filterMap_cons, List.filter_cons, fm_filter p l]
    cases p a <;> rfl
theorem take_snoc {α : Type} {l : List α} {i : Nat} {x : α} (h : l[i]? = some x) : l.take (i + 1) = l.take i ++ [x] := by
  rw [List.take_succ, h]
  rfl
theorem paired_refsR {F : V → Sf64.Row → Prop} {G : Addr → Sf64.Row → Prop} (k : ∀ v r, F v r → ∃ a, v = V.ref a ∧ G a r) : ∀ {ys : List V} {rows : List Sf64.Row}, Paired F ys rows → ∃ as : List Addr, ys = as.map V.ref ∧ Paired G as rows
  | _, _, .nil => ⟨[], rfl, .nil⟩
  | _, _, .cons q t => by
    obtain ⟨a, rfl, g⟩ := k _ _ q
    obtain ⟨as, rfl, h⟩ := paired_refsR k t
    exact ⟨a :: as, rfl, .cons g h⟩
theorem paired_map {α β γ : Type} {F : α → γ → Prop} {f : β → γ} : ∀ {l : List α} {m : List β}, Paired (fun a b => F a (f b)) l m → Paired F l (m.map f)
  | _, _, .nil => .nil
  | _, _, .cons q t => .cons q (paired_map t)
theorem paired_refmap {F : V → Sf64.Row → Prop} : ∀ {as : List Addr} {rows : List Sf64.Row}, Paired (fun a r => F (V.ref a) r) as rows → Paired F (as.map V.ref) rows
  | _, _, .nil => .nil
  | _, _, .cons q t => .cons q (paired_refmap t)
theorem rows_itemsT {H : Hp} : ∀ {as : List Addr} {A : List Sf64.Row}, Paired (fun a r => LI H a r) as (A.map Sf64.flat) → Paired (fun (v : V) (r : Sf64.Row) => ∃ a, v = V.ref a ∧ LI H a (Sf64.flat r)) (as.map V.ref) A
  | [], [], _ => .nil
  | _ :: _, _ :: _, .cons q t => .cons ⟨_, rfl, q⟩ (rows_itemsT t)
end Sd
namespace Sd
open PySem PySem.Spec PyProof.Rows L2
def spJoined (K : PySem.W.Frag) : Sp := fun vs H Q _ => ∃ (a b : Addr) (k n B : Nat) (r s : Sf64.Row), vs = [.ref a, .ref b, .int k] ∧ Ints K H a (Sf64.flat r) ∧ Ints K H b (Sf64.flat s) ∧ r.a.length = n ∧ s.a.length = n ∧ k < n ∧ n ≤ 1000 ∧ B ≤ 4611686018427387904 ∧ BdN B (Sf64.flat r) ∧ BdN B (Sf64.flat s) ∧
  ∀ (H' : Hp) (p : Addr), Same H H' → H p = none → H' p = some (.lst ((Sf64.flat (Sf64.joined k r s)).map V.int)) → Q (.ref p) H'
def spWithout (K : PySem.W.Frag) : Sp := fun vs H Q _ => ∃ (l : Addr) (k n B : Nat) (A : List Sf64.Row), vs = [.int k, .ref l] ∧ RowsT H l (A.map Sf64.flat) ∧ Fit n B 1000 A ∧ k < n ∧ n ≤ 1000 ∧ B ≤ 4611686018427387904 ∧
  ∀ (H' : Hp) (p : Addr), Same H H' → H p = none → RowsT H' p ((Sf64.drop A k).map Sf64.flat) → Q (.ref p) H'
def spWFirst : Sp := fun vs H Q _ => ∃ (l : Addr) (many n : Nat) (A : List Sf64.Row), vs = [.int many, .ref l] ∧ RowsT H l (A.map Sf64.flat) ∧ Fit n (Bn 0) (Ln 0) A ∧ many ≤ n ∧ many ≤ 3 ∧ n ≤ 1000 ∧
  ∀ (H' : Hp) (p : Addr), Same H H' → RowsT H' p ((Se02.dropAll A (List.range many)).map Sf64.flat) → Q (.ref p) H'
def spCanMet : Sp := fun vs H Q _ => ∃ (l : Addr) (n : Nat) (A : List Sf64.Row), vs = [.int n, .ref l] ∧ RowsT H l (A.map Sf64.flat) ∧ Fit n (Bn 0) (Ln 0) A ∧ n ≤ 3 ∧ ∀ H', Same H H' → Q (.bl (Se02.can n A)) H'
end Sd
namespace Sd
open PySem PySem.Spec PyProof.Rows L2
theorem rows_itemsG {H : Hp} : ∀ {as : List Addr} {rows : List (List Int)}, Paired (fun a r => LI H a r) as rows → Paired (fun (v : V) (r : List Int) => ∃ a, v = V.ref a ∧ LI H a r) (as.map V.ref) rows
  | [], [], _ => .nil
  | _ :: _, _ :: _, .cons q t => .cons ⟨_, rfl, q⟩ (rows_itemsG t)
theorem flatten_take_snoc {α : Type} {rows : List (List α)} {i : Nat} {r : List α} (h : rows[i]? = some r) : (rows.take (i + 1)).flatten = (rows.take i).flatten ++ r := by
  rw [List.take_succ, h, List.flatten_append]
  simp
theorem flatten_take_le {α : Type} (rows : List (List α)) (i : Nat) : (rows.take i).flatten.length ≤ rows.flatten.length := by
  have e : rows.flatten = (rows.take i).flatten ++ (rows.drop i).flatten := by rw [← List.flatten_append, List.take_append_drop]
  rw [e, List.length_append]
  omega
def spOneRow : Sp := fun vs H Q _ => ∃ (l : Addr) (rows : List (List Int)), vs = [.ref l] ∧ RowsT H l rows ∧ rows.flatten.length ≤ 1000000 ∧ rows.length ≤ 1000000 ∧ ∀ (H' : Hp) (p : Addr), Same H H' → H p = none → LI H' p rows.flatten → Q (.ref p) H'
def spCounted : Sp := fun vs H Q _ => ∃ (l : Addr) (rows : List (List Int)), vs = [.ref l] ∧ RowsT H l rows ∧ rows.flatten.length ≤ 1000000 ∧ rows.length ≤ 1000000 ∧ ∀ (H' : Hp) (p : Addr), Same H H' → H p = none → LI H' p ((rows.length : Int) :: rows.flatten) → Q (.ref p) H'
def spUnknown : Sp := fun vs H Q _ => ∃ d k : Int, vs = [.int d, .int k] ∧ Q (.bl (decide (0 ≤ k) && decide (k < d))) H
def spDrop (K : PySem.W.Frag) : Sp := fun vs H Q _ => ∃ (d k : Int) (a : Addr) (l : List Int), vs = [.int d, .int k, .ref a] ∧ Ints K H a l ∧ l.length ≤ 60 ∧
  ∀ (H' : Hp) (p : Addr), H' p = some (.lst ((PySe02.drop d k l).map V.int)) → Q (.ref p) H'
theorem drop_bad {d k : Int} {l : List Int} (h : (fitS d l && (decide (0 ≤ k) && decide (k < d))) = false) : PySe02.drop d k l = [-1] := by
  rw [fitS_eq] at h
  show (Se02.does (.drop d k l)).value :: (Se02.does (.drop d k l)).out = [-1]
  unfold Se02.does
  simp only [h]
  rfl
theorem drop_good {d k : Int} {l : List Int} {n m : Nat} (G : Good d l n m) (c1 : fitS d l = true) (c2 : (decide (0 ≤ k) && decide (k < d)) = true) :
    PySe02.drop d k l = (((Sf64.drop (Sf64.rowsOf n m l) k.toNat).map Sf64.flat).length : Int) :: ((Sf64.drop (Sf64.rowsOf n m l) k.toNat).map Sf64.flat).flatten := by
  rw [fitS_eq] at c1
  show (Se02.does (.drop d k l)).value :: (Se02.does (.drop d k l)).out = _
  unfold Se02.does
  simp only [c1, c2]
  rw [G.sides, List.length_map, ← List.flatMap_def]
  rfl
theorem flat_total {A : List Sf64.Row} {n : Nat} : (∀ r ∈ A, r.a.length = n) → (A.map Sf64.flat).flatten.length = A.length * (n + 1) := by
  induction A with
  | nil => intro _; simp
  | cons r A ih =>
    intro h
    rw [List.map_cons, List.flatten_cons, List.length_append, ih fun q hq => h q (List.mem_cons_of_mem _ hq), flat_len (h r (List.mem_cons_self ..)), List.length_cons, Nat.succ_mul]
    omega
end Sd
namespace Sd
open PySem PySem.Spec PyProof.Rows L2
def TOP : Nat := 1267650600228229401496703205376
theorem log2_top {n : Nat} (h : n < TOP) : n.log2 < 100 := by
  rcases Nat.eq_zero_or_pos n with h0 | hp
  · rw [h0]; decide
  · exact (Nat.log2_lt (Nat.ne_of_gt hp)).mpr h
theorem bits_top {k : Int} (h : k.natAbs < TOP) : Builtin.Int.intBits k ≤ 100 := by
  unfold Builtin.Int.intBits
  split
  · exact Nat.zero_le _
  · have := log2_top h
    omega
/-- numbers that are not too great to be multiplied -/
def CMulB (i j : Int) : Prop := i.natAbs < TOP ∧ j.natAbs < TOP
theorem CMulB.ok {i j : Int} (h : CMulB i j) : IntMulOk i j := by
  have h1 := bits_top h.1
  have h2 := bits_top h.2
  unfold IntMulOk
  have : Builtin.Int.intTooBig ((Builtin.Int.intBits i : Int) + (Builtin.Int.intBits j : Int)) = false := by
    unfold Builtin.Int.intTooBig
    refine decide_eq_false ?_
    have : (200 : Int) ≤ bitsLine := by decide
    omega
  rw [this]
  simp
theorem op_mulB {X : Cx} : OpR X (binaryOp .Mult) (rI CMulB fun i j => .int (i * j)) := opI fun _ _ _ _ _ _ _ hc q => mul_int q hc.ok
def CDivB (i j : Int) : Prop := j ≠ 0 ∧ j.natAbs < TOP
theorem op_fdivB {X : Cx} : OpR X (binaryOp .FloorDiv) (rI CDivB fun i j => .int (i.fdiv j)) := opI fun _ _ _ _ _ _ _ hc q => floordiv_int hc.1 q (.inl (PyProof.noPylong_of_log2 (by have := log2_top hc.2; omega)))
def spGcd : Sp := fun vs H Q _ => ∃ a b : Int, vs = [.int a, .int b] ∧ Q (.int (Nat.gcd a.natAbs b.natAbs : Nat)) H
def spLowest (K : PySem.W.Frag) : Sp := fun vs H Q _ => ∃ (a : Addr) (x : List Int) (q : Int), vs = [.ref a] ∧ Ints K H a (x ++ [q]) ∧ q ≠ 0 ∧ q.natAbs < TOP ∧ x.length ≤ 1000 ∧
  ∀ (H' : Hp) (p : Addr), Same H H' → H p = none → LI H' p (Sf64.told (Se02.lowest x q)) → Q (.ref p) H'
end Sd
namespace Sd
open PySem PySem.Spec PyProof.Rows L2
theorem cut_take {ns : List Int} {n : Nat} : cutV (ns.map V.int) none (some (n : Int)) = (ns.take n).map V.int := by
  unfold cutV
  rw [HT.sIx_none, HT.sIx_nat, List.length_map, List.drop_zero, Nat.sub_zero, ← List.map_take]
  congr 1
  rcases Nat.le_total n ns.length with h | h
  · rw [Nat.min_eq_left h]
  · rw [Nat.min_eq_right h, List.take_of_length_le (Nat.le_refl _), List.take_of_length_le h]
theorem flat_take {r : Sf64.Row} {n : Nat} (h : r.a.length = n) : (Sf64.flat r).take n = r.a := by
  unfold Sf64.flat
  rw [List.take_append_of_le_length (by omega), List.take_of_length_le (by omega)]
theorem fm_filter_map {α β : Type} (c : α → Bool) (g : α → β) : ∀ l : List α, l.filterMap (fun a => if c a = true then some (g a) else none) = (l.filter c).map g
  | [] => rfl
  | a :: l => by
    rw [List.filterMap_cons, List.filter_cons, fm_filter_map c g l]
    cases c a <;> rfl
theorem paired_refsX {α : Type} {F : V → α → Prop} {G : Addr → α → Prop} (k : ∀ v r, F v r → ∃ a, v = V.ref a ∧ G a r) : ∀ {ys : List V} {rows : List α}, Paired F ys rows → ∃ as : List Addr, ys = as.map V.ref ∧ Paired G as rows
  | _, _, .nil => ⟨[], rfl, .nil⟩
  | _, _, .cons q t => by
    obtain ⟨a, rfl, g⟩ := k _ _ q
    obtain ⟨as, rfl, h⟩ := paired_refsX k t
    exact ⟨a :: as, rfl, .cons g h⟩
theorem ne_new {H : Hp} {a p : Addr} {o : HO} (h : H a = some o) (hp : H p = none) : p ≠ a := fun e => by rw [e, h] at hp; cases hp
end Sd
namespace Sd
open PySem PySem.Spec PyProof.Rows L2
/-- numbers that may be multiplied -/
def Bd (B : Int) (l : List Int) : Prop := ∀ z ∈ l, -B ≤ z ∧ z ≤ B
def spIsMet (K : PySem.W.Frag) : Sp := fun vs H Q _ => ∃ (a x : Addr) (q : Int) (r : Sf64.Row) (xs : List Int), vs = [.ref a, .int q, .ref x] ∧ Ints K H a (Sf64.flat r) ∧ Ints K H x xs ∧ r.a.length = xs.length ∧ xs.length ≤ 1000 ∧ Bd 1000000000 (Sf64.flat r) ∧
  ∀ H', Same H H' → Q (.bl (decide (Sf64.dot r.a xs ≤ r.b * q))) H'
def spMeetsAll (K : PySem.W.Frag) : Sp := fun vs H Q _ => ∃ (l x : Addr) (q : Int) (A : List Sf64.Row) (xs : List Int), vs = [.ref l, .int q, .ref x] ∧ Rows K H l (A.map Sf64.flat) ∧ Ints K H x xs ∧ (∀ r ∈ A, r.a.length = xs.length) ∧ xs.length ≤ 1000 ∧ A.length ≤ 1000 ∧ (∀ r ∈ A, Bd 1000000000 (Sf64.flat r)) ∧
  ∀ H', Same H H' → Q (.bl (A.all fun r => decide (Sf64.dot r.a xs ≤ r.b * q))) H'
def spMeets (K : PySem.W.Frag) : Sp := fun vs H Q _ => ∃ (d q : Int) (a x : Addr) (l xs : List Int), vs = [.int d, .int q, .ref a, .ref x] ∧ Ints K H a l ∧ Ints K H x xs ∧ l.length ≤ 60 ∧ xs.length ≤ 60 ∧
  ∀ (H' : Hp) (p : Addr), H' p = some (.lst ((PySe02.meets d q l xs).map V.int)) → Q (.ref p) H'
end Sd
namespace Sd
open PySem PySem.Spec PyProof.Rows L2
theorem pi_listK {X : Cx} {tg l : Expr} {tl : TE} {K : PySem.W.Frag} (hK : X.K = K) (hl : PE X l tl) : PI X tg l (iList K tl) := hK ▸ pi_list hl
def compScope (s : Stmt) : Scope := match s with
  | .Assign _ (.ListComp _ _ sc _) _ => sc
  | _ => { kind := .function, names := [], isGenerator := false, isCoroutine := false }
def lamScope (s : Stmt) : Scope := match s with
  | .Return (some (.Call _ _ [⟨_, .Lambda _ _ sc _, _⟩] _)) _ => sc
  | _ => { kind := .function, names := [], isGenerator := false, isCoroutine := false }
def nth (l : List Stmt) (i : Nat) : Stmt := l.getD i (.Pass ⟨0, 0, 0, 0⟩)
end Sd
namespace Sd
open PySem PySem.Spec PyProof.Rows L2
def rLenK (K : PySem.W.Frag) : List V → Hp → VK → Prop := fun xs H Q => ∃ p ys, xs = [V.ref p] ∧ (SqL K H p ys ∨ SqT K H p ys) ∧ Q (.int (List.length ys)) H
theorem call_lenK {X : Cx} : CallR X (.builtin "len") (rLenK X.K) := call_len_seq
/-- choices of rows: a new list of new lists of the rows of H -/
def Ch (H H' : Hp) (p : Addr) (Cs : List (List Sf64.Row)) : Prop := ∃ qs : List Addr, H' p = some (.lst (qs.map V.ref)) ∧ Paired (fun q C => ∃ rs : List Addr, H' q = some (.lst (rs.map V.ref)) ∧ Paired (fun a r => LI H a (Sf64.flat r)) rs C) qs Cs
theorem paired_vref {α : Type} {F : Addr → α → Prop} : ∀ {qs : List Addr} {Cs : List α}, Paired F qs Cs → Paired (fun (v : V) (C : α) => ∃ q, v = V.ref q ∧ F q C) (qs.map V.ref) Cs
  | _, _, .nil => .nil
  | _, _, .cons q t => .cons ⟨_, rfl, q⟩ (paired_vref t)
theorem grow_len {many : Nat} : ∀ (l : List Sf64.Row) (f : List (List Sf64.Row)) (n : Nat), f.length ≤ n → (l.foldl (Dt.grow many) f).length ≤ n * 2 ^ l.length
  | [], f, n, h => by simpa using h
  | r :: l, f, n, h => by
    rw [List.foldl_cons, List.length_cons, Nat.pow_succ]
    have h1 : (Dt.grow many f r).length ≤ n * 2 := by
      unfold Dt.grow
      rw [List.length_append, List.length_map]
      have := List.length_filter_le (fun (p : List Sf64.Row) => decide (p.length < many)) f
      omega
    have := grow_len (many := many) l (Dt.grow many f r) (n * 2) h1
    rw [Nat.mul_assoc, Nat.mul_comm 2] at this
    exact this
theorem grow_take {many : Nat} {A : List Sf64.Row} {i : Nat} {r : Sf64.Row} (h : A[i]? = some r) : (A.take (i + 1)).foldl (Dt.grow many) [[]] = Dt.grow many ((A.take i).foldl (Dt.grow many) [[]]) r := by
  rw [take_snoc h, List.foldl_append]
  rfl
theorem grown_small {many i : Nat} {A : List Sf64.Row} (h : A.length ≤ 8) : ((A.take i).foldl (Dt.grow many) [[]]).length ≤ 256 := by
  have h1 := grow_len (many := many) (A.take i) [[]] 1 (by simp)
  have h2 : (A.take i).length ≤ 8 := by rw [List.length_take]; omega
  have h3 : 2 ^ (A.take i).length ≤ 2 ^ 8 := Nat.pow_le_pow_right (by decide) h2
  omega
def spChoices (K : PySem.W.Frag) : Sp := fun vs H Q _ => ∃ (l : Addr) (many n : Nat) (A : List Sf64.Row), vs = [.ref l, .int many] ∧ RowsT H l (A.map Sf64.flat) ∧ A.length ≤ 8 ∧ many ≤ 3 ∧
  ∀ (H' : Hp) (p : Addr), Same H H' → H p = none → Ch H H' p (Dt.chosen A many) → Q (.ref p) H'
def spDet (n : Nat) : Sp := fun vs H Q _ => ∃ (l : Addr) (sq : List (List Int)), vs = [.ref l] ∧ RowsT H l sq ∧ sq.length = n ∧ (∀ r ∈ sq, r.length = n) ∧ (∀ r ∈ sq, BdN 1000 r) ∧ ∀ H', Same H H' → Q (.int (Dt.detC n sq)) H'
def spWithB : Sp := fun vs H Q _ => ∃ (a : Addr) (k n : Nat) (r : Sf64.Row), vs = [.int k, .ref a] ∧ LI H a (Sf64.flat r) ∧ r.a.length = n ∧ k < n ∧ n ≤ 1000 ∧ ∀ (H' : Hp) (p : Addr), Same H H' → H p = none → LI H' p (r.a.set k r.b) → Q (.ref p) H'
def spCross (K : PySem.W.Frag) : Sp := fun vs H Q _ => ∃ (l : Addr) (n : Nat) (C : List Sf64.Row), vs = [.int n, .ref l] ∧ RowsT H l (C.map Sf64.flat) ∧ C.length = n ∧ (∀ r ∈ C, r.a.length = n) ∧ (∀ r ∈ C, BdN 1000 (Sf64.flat r)) ∧ 1 ≤ n ∧ n ≤ 3 ∧
  ∀ H', Same H H' → (Dt.cross n C = none → Q .non H') ∧ ∀ p pt, Dt.cross n C = some pt → H p = none → LI H' p (Sf64.told pt) → Q (.ref p) H'
def spOrder (T : Addr) (K : PySem.W.Frag) : Sp := fun vs H Q _ => ∃ (l : Addr) (n : Nat) (L : List Sf64.Pt), vs = [.int n, .ref l] ∧ H T = some (.tbl #[]) ∧ RowsT H l (L.map Sf64.told) ∧ (∀ p ∈ L, Co.Low n p) ∧ L.Nodup ∧ L.length < 64 ∧ n ≤ 3 ∧ (∀ p ∈ L, p.q ≤ 6000000000 ∧ BdN 6000000000 p.x) ∧
  ∀ (H' : Hp) (p : Addr) (M : List Sf64.Pt), M.Perm L → (M.Pairwise fun p r => Dt.lexLe (Dt.key (Dt.shared L) p) (Dt.key (Dt.shared L) r) = true) → RowsT H' p (M.map Sf64.told) → Q (.ref p) H'
def spPoints (T : Addr) (K : PySem.W.Frag) : Sp := fun vs H Q _ => ∃ (l : Addr) (n : Nat) (A : List Sf64.Row), vs = [.int n, .ref l] ∧ H T = some (.tbl #[]) ∧ RowsT H l (A.map Sf64.flat) ∧ Fit n 1000 8 A ∧ 1 ≤ n ∧ n ≤ 3 ∧
  ∀ (H' : Hp) (p : Addr), (Se02.cornersOf n A).Perm (Dt.found n A) → RowsT H' p ((Se02.cornersOf n A).map Sf64.told) → Q (.ref p) H'
def spCorners (T : Addr) (K : PySem.W.Frag) : Sp := fun vs H Q _ => ∃ (d : Int) (a : Addr) (l : List Int), vs = [.int d, .ref a] ∧ H T = some (.tbl #[]) ∧ Ints K H a l ∧ l.length ≤ 60 ∧
  ∀ (H' : Hp) (p : Addr), H' p = some (.lst ((PySe02.corners d l).map V.int)) → Q (.ref p) H'
theorem corners_bad {d : Int} {l : List Int} (h : fitS d l = false) : PySe02.corners d l = [-1] := by
  rw [fitS_eq] at h
  show (Se02.does (.corners d l)).value :: (Se02.does (.corners d l)).out = [-1]
  unfold Se02.does
  simp only [h]
  rfl
theorem corners_good {d : Int} {l : List Int} {n m : Nat} (G : Good d l n m) (c1 : fitS d l = true) :
    PySe02.corners d l = (((Se02.cornersOf n (Sf64.rowsOf n m l)).map Sf64.told).length : Int) :: ((Se02.cornersOf n (Sf64.rowsOf n m l)).map Sf64.told).flatten := by
  rw [fitS_eq] at c1
  show (Se02.does (.corners d l)).value :: (Se02.does (.corners d l)).out = _
  unfold Se02.does
  simp only [c1]
  rw [G.sides, G.dn, List.length_map, ← List.flatMap_def]
  rfl
end Sd
namespace Sd
open PySem PySem.Spec PyProof.Rows L2
theorem cutV_take (xs : List V) (n : Nat) : cutV xs none (some (n : Int)) = xs.take n := by
  unfold cutV
  rw [HT.sIx_none, HT.sIx_nat, List.drop_zero, Nat.sub_zero]
  rcases Nat.le_total n xs.length with h | h
  · rw [Nat.min_eq_left h]
  · rw [Nat.min_eq_right h, List.take_of_length_le (Nat.le_refl _), List.take_of_length_le h]
theorem cutV_drop (xs : List V) (n : Nat) : cutV xs (some (n : Int)) none = xs.drop n := by
  unfold cutV
  rw [HT.sIx_none, HT.sIx_nat]
  rcases Nat.le_total n xs.length with h | h
  · rw [Nat.min_eq_left h, List.take_of_length_le (by rw [List.length_drop]; exact Nat.le_refl _)]
  · rw [Nat.min_eq_right h, Nat.sub_self, List.take_zero, List.drop_eq_nil_of_le h]
theorem sIx_last (n d : Nat) : HT.sIx (n + 1) d (some (-1)) = n := by
  show (if (-1 : Int) < 0 then ((-1 : Int) + ((n + 1 : Nat) : Int)).toNat else min (-1 : Int).toNat (n + 1)) = n
  rw [if_pos (by decide)]
  omega
theorem cutV_last {ys : List V} {b : V} : cutV (ys ++ [b]) (some (-1)) none = [b] := by
  unfold cutV
  rw [HT.sIx_none, List.length_append]
  show List.take (ys.length + 1 - HT.sIx (ys.length + 1) 0 (some (-1))) (List.drop (HT.sIx (ys.length + 1) 0 (some (-1))) (ys ++ [b])) = [b]
  rw [sIx_last, List.drop_left]
  simp
theorem cutV_mid {ys : List V} {b : V} {k : Nat} (hk : k ≤ ys.length) : cutV (ys ++ [b]) (some (k : Int)) (some (-1)) = ys.drop k := by
  unfold cutV
  rw [List.length_append]
  show List.take (HT.sIx (ys.length + 1) (ys.length + 1) (some (-1)) - HT.sIx (ys.length + 1) 0 (some (k : Int))) (List.drop (HT.sIx (ys.length + 1) 0 (some (k : Int))) (ys ++ [b])) = ys.drop k
  rw [sIx_last, HT.sIx_nat, Nat.min_eq_left (by omega), List.drop_append_of_le_length hk, List.take_append_of_le_length (by rw [List.length_drop]; exact Nat.le_refl _), List.take_of_length_le (by rw [List.length_drop]; exact Nat.le_refl _)]
theorem paired_take {α β : Type} {F : α → β → Prop} : ∀ {l : List α} {m : List β} (n : Nat), Paired F l m → Paired F (l.take n) (m.take n)
  | _, _, 0, _ => by rw [List.take_zero, List.take_zero]; exact .nil
  | _, _, n + 1, .nil => by simp; exact .nil
  | _, _, n + 1, .cons q t => by rw [List.take_succ_cons, List.take_succ_cons]; exact .cons q (paired_take n t)
theorem paired_drop {α β : Type} {F : α → β → Prop} : ∀ {l : List α} {m : List β} (n : Nat), Paired F l m → Paired F (l.drop n) (m.drop n)
  | _, _, 0, h => by rw [List.drop_zero, List.drop_zero]; exact h
  | _, _, n + 1, .nil => by simp; exact .nil
  | _, _, n + 1, .cons q t => by rw [List.drop_succ_cons, List.drop_succ_cons]; exact paired_drop n t
/-- the determinant's terms -/
def dterm (n : Nat) (sq : List (List Int)) (i : Nat) : Int := if i % 2 = 0 then (sq.getD i []).getD 0 0 * Dt.detC n ((sq.eraseIdx i).map List.tail) else -((sq.getD i []).getD 0 0 * Dt.detC n ((sq.eraseIdx i).map List.tail))
theorem detC_sum (n : Nat) (sq : List (List Int)) : Dt.detC (n + 1) sq = ((List.range sq.length).map (dterm n sq)).sum := rfl
theorem range_sum_snoc (f : Nat → Int) (i : Nat) : ((List.range (i + 1)).map f).sum = ((List.range i).map f).sum + f i := by
  rw [List.range_succ, List.map_append, List.sum_append]
  simp
theorem sum_bd {M : Nat} : ∀ {l : List Int}, (∀ z ∈ l, z.natAbs ≤ M) → l.sum.natAbs ≤ l.length * M
  | [], _ => by simp
  | a :: l, h => by
    rw [List.sum_cons, List.length_cons, Nat.succ_mul]
    have h1 := h a (List.mem_cons_self ..)
    have h2 := sum_bd (l := l) fun z hz => h z (List.mem_cons_of_mem _ hz)
    have := Int.natAbs_add_le a l.sum
    omega
def Dn : Nat → Nat
  | 0 => 1
  | n + 1 => (n + 1) * (1000 * Dn n)
theorem mem_erase_tail {sq : List (List Int)} {i : Nat} {r : List Int} (h : r ∈ (sq.eraseIdx i).map List.tail) : ∃ s ∈ sq, r = s.tail := by
  obtain ⟨s, hs, rfl⟩ := List.mem_map.mp h
  exact ⟨s, List.mem_of_mem_eraseIdx hs, rfl⟩
theorem detC_bd : ∀ (n : Nat) {sq : List (List Int)}, sq.length = n → (∀ r ∈ sq, BdN 1000 r) → (Dt.detC n sq).natAbs ≤ Dn n
  | 0, sq, _, _ => by show (1 : Int).natAbs ≤ 1; decide
  | n + 1, sq, hl, hb => by
    rw [detC_sum]
    have key : ∀ z ∈ (List.range sq.length).map (dterm n sq), z.natAbs ≤ 1000 * Dn n := fun z hz => by
      obtain ⟨i, hi, rfl⟩ := List.mem_map.mp hz
      have hi := List.mem_range.mp hi
      have h1 : ((sq.getD i []).getD 0 0).natAbs ≤ 1000 := getD_bd (hb _ (getD_mem hi)) 0
      have h2 := detC_bd n (sq := (sq.eraseIdx i).map List.tail) (by rw [List.length_map, List.length_eraseIdx_of_lt hi]; omega) fun r hr z hz => by
        obtain ⟨s, hs, rfl⟩ := mem_erase_tail hr
        exact hb s hs z (List.mem_of_mem_tail hz)
      have h3 := Nat.mul_le_mul h1 h2
      unfold dterm
      split
      · rw [Int.natAbs_mul]; exact h3
      · rw [Int.natAbs_neg, Int.natAbs_mul]; exact h3
    have := sum_bd key
    have e : ((List.range sq.length).map (dterm n sq)).length * (1000 * Dn n) = Dn (n + 1) := by
      rw [List.length_map, List.length_range, hl]
      rfl
    rw [e] at this
    exact this
end Sd
namespace Sd
open PySem PySem.Spec PyProof.Rows L2
theorem Dn_top {n : Nat} (h : n ≤ 3) : Dn n ≤ 6000000000 := by
  match n, h with
  | 0, _ => decide
  | 1, _ => decide
  | 2, _ => decide
  | 3, _ => decide
/-- x not in l, l a list of rows -/
def rNotIn : R2 := fun x y H Q => ∃ (p l : Addr) (ns : List Int) (rows : List (List Int)), x = .ref p ∧ y = .ref l ∧ LI H p ns ∧ RowsT H l rows ∧ Q (.bl (!(rows.any fun r => decide (r = ns)))) H
def valNums (h : Heap) (ns : List Int) (v : Value) : Bool := match v with
  | .ref a => match h.get? a with
    | some ⟨_, _, .seq its _, _⟩ => decide (its.toList.map numOf = ns)
    | _ => false
  | _ => false
theorem ints_nums {its : List Value} {ns : List Int} (h : IntsAre its ns) : its.map numOf = ns := h.nums
theorem op_notIn {X : Cx} (hu : X.A.in1.units < cLine) : OpR X (compareOp .NotIn) rNotIn := by
  intro pins s σ H x y v u Q I rx ry h
  obtain ⟨p, l, ns, rows, rfl, rfl, hp, ⟨as, hl, hP⟩, q⟩ := h
  cases rx
  cases ry
  obtain ⟨_, itp, mp, rp, _, ep⟩ := I.lstM hp
  obtain ⟨_, itl, ml, rl, _, el⟩ := I.lstM hl
  have ei := Sk.vals_refs rl
  subst ei
  have ip := rp.ints
  have key : ∀ {a : Addr} {r : List Int}, LI H a r → valNums s.heap ns (.ref a) = decide (r = ns) ∧ SeqAt.EqAt X.A.in1 s (.ref a) (.ref p) (decide (r = ns)) := fun {a r} ha => by
    obtain ⟨_, its, m, ra, _, ea⟩ := I.lstM ha
    have ia := ra.ints
    have e1 : valNums s.heap ns (.ref a) = decide (r = ns) := by
      unfold valNums
      dsimp only
      rw [ea]
      show decide (its.toArray.toList.map numOf = ns) = _
      rw [List.toList_toArray, ints_nums ia]
    refine ⟨e1, ?_⟩
    by_cases hap : a = p
    · subst hap
      rw [ea] at ep
      cases ep
      have : r = ns := by rw [← ints_nums ia, ← ints_nums ip]
      rw [decide_eq_true this]
      exact SeqAt.EqAt.same _
    · have hla : s.heap.IsList a its.toArray := ⟨_, ea, rfl, _, rfl⟩
      have hlp : s.heap.IsList p itp.toArray := ⟨_, ep, rfl, _, rfl⟩
      by_cases hsz : its.toArray.size = itp.toArray.size
      · have q := SeqAt.RcAt.lists (A := X.A.in1) (e := fun j => decide (r.getD j 0 = ns.getD j 0)) hla hlp hsz hu fun j h1 h2 => by
          rw [List.size_toArray] at h1 h2
          obtain ⟨t, ht⟩ := ia.get j (r.getD j 0) (by rw [List.getD_eq_getElem?_getD, List.getElem?_eq_getElem (by rw [← ia.length]; exact h1)]; rfl)
          obtain ⟨t2, ht2⟩ := ip.get j (ns.getD j 0) (by rw [List.getD_eq_getElem?_getD, List.getElem?_eq_getElem (by rw [← ip.length]; exact h2)]; rfl)
          have g1 : its.toArray[j] = .int (r.getD j 0) t := by
            have : its[j]? = some its[j] := List.getElem?_eq_getElem h1
            rw [ht] at this
            simpa using (Option.some.inj this).symm
          have g2 : itp.toArray[j] = .int (ns.getD j 0) t2 := by
            have : itp[j]? = some itp[j] := List.getElem?_eq_getElem h2
            rw [ht2] at this
            simpa using (Option.some.inj this).symm
          rw [g1, g2]
          have := SeqAt.EqAt.int_int (A := X.A.in1.in1) (s := s) (r.getD j 0) t (ns.getD j 0) t2
          rw [Bool.beq_eq_decide_eq] at this
          exact this
        have e : ((List.range its.toArray.size).all fun j => decide (r.getD j 0 = ns.getD j 0)) = decide (r = ns) := by
          rw [List.size_toArray] at hsz ⊢
          rw [List.size_toArray] at hsz
          have l1 := ia.length
          have l2 := ip.length
          rw [Bool.eq_iff_iff, List.all_eq_true, decide_eq_true_eq]
          constructor
          · intro hh
            refine List.ext_getElem (by omega) fun j h1 h2 => ?_
            have := of_decide_eq_true (hh j (List.mem_range.mpr (by omega)))
            rw [List.getD_eq_getElem?_getD, List.getD_eq_getElem?_getD, List.getElem?_eq_getElem h1, List.getElem?_eq_getElem h2] at this
            exact this
          · rintro rfl j _
            exact decide_eq_true rfl
        rw [e] at q
        exact SeqAt.EqAt.of_refs hap q
      · have q := SeqAt.RcAt.lists_lengths (A := X.A.in1) hla hlp (by simpa using hsz) hu
        have : ¬ r = ns := fun z => hsz (by rw [List.size_toArray, List.size_toArray, ia.length, ip.length, z])
        rw [decide_eq_false this]
        exact SeqAt.EqAt.of_refs hap q
  have hlL : s.heap.IsList l (as.map Value.ref).toArray := ⟨_, el, rfl, _, rfl⟩
  have any : ∀ {as : List Addr} {rows : List (List Int)}, Paired (fun a r => LI H a r) as rows → (as.map Value.ref).any (valNums s.heap ns) = rows.any fun r => decide (r = ns) := fun {as rows} hP => by
    induction hP with
    | nil => rfl
    | cons q t ih => rw [List.map_cons, List.any_cons, List.any_cons, (key q).1, ih]
  refine SeqAt.notIn_listAt (valNums s.heap ns) hlL (fun y hy => ?_) ?_
  · have hy : y ∈ as.map Value.ref := by simpa using hy
    obtain ⟨a, ha, rfl⟩ := List.mem_map.mp hy
    obtain ⟨i, hi⟩ := List.getElem?_of_mem ha
    obtain ⟨r, _, hr⟩ := paired_get hP hi
    rw [(key hr).1]
    exact (key hr).2
  · refine ⟨.bl _, H, I, rfl, ?_⟩
    rw [show ((as.map Value.ref).toArray.any (valNums s.heap ns)) = (as.map Value.ref).any (valNums s.heap ns) by simp, any hP]
    exact q
/-- how many choices there are -/
def Pc : Nat → Nat → Nat
  | 0, 0 => 1
  | 0, _ + 1 => 0
  | m + 1, 0 => Pc m 0
  | m + 1, j + 1 => Pc m (j + 1) + Pc m j
theorem grow_count {many : Nat} : ∀ (l : List Sf64.Row) (f : List (List Sf64.Row)) (m : Nat), (∀ j, (f.filter fun p => decide (p.length = j)).length ≤ Pc m j) → ∀ j, ((l.foldl (Dt.grow many) f).filter fun p => decide (p.length = j)).length ≤ Pc (m + l.length) j
  | [], f, m, h, j => h j
  | r :: l, f, m, h, j => by
    rw [List.foldl_cons, List.length_cons, show m + (l.length + 1) = (m + 1) + l.length by omega]
    refine grow_count l (Dt.grow many f r) (m + 1) (fun j => ?_) j
    unfold Dt.grow
    rw [List.filter_append, List.length_append, List.filter_map, List.length_map, List.filter_filter]
    cases j with
    | zero =>
      have e : (f.filter fun a => ((fun (p : List Sf64.Row) => decide (p.length = 0)) ∘ fun p => p ++ [r]) a && decide (a.length < many)) = [] := by
        rw [List.filter_eq_nil_iff]
        intro a _
        simp
      rw [e]
      exact h 0
    | succ j =>
      have h1 := h (j + 1)
      have h2 := h j
      have e : (f.filter fun a => ((fun (p : List Sf64.Row) => decide (p.length = j + 1)) ∘ fun p => p ++ [r]) a && decide (a.length < many)).length ≤ (f.filter fun p => decide (p.length = j)).length := by
        rw [← List.countP_eq_length_filter, ← List.countP_eq_length_filter]
        refine List.countP_mono_left fun a _ hh => ?_
        rw [Bool.and_eq_true] at hh
        have h3 : (a ++ [r]).length = j + 1 := of_decide_eq_true hh.1
        rw [List.length_append] at h3
        exact decide_eq_true (by simpa using h3)
      show _ ≤ Pc m (j + 1) + Pc m j
      omega
theorem chosen_few {A : List Sf64.Row} {n : Nat} (hA : A.length ≤ 8) (hn : n ≤ 3) : (Dt.chosen A n).length < 64 := by
  have h := grow_count (many := n) A [[]] 0 (fun j => by cases j <;> simp [Pc]) n
  rw [Nat.zero_add] at h
  have key : ∀ m, m < 9 → ∀ n, n < 4 → Pc m n < 64 := by decide
  exact Nat.lt_of_le_of_lt h (key A.length (by omega) n (by omega))
end Sd
namespace Sd
open PySem PySem.Spec PyProof.Rows L2
theorem told_len {n : Nat} {p : Sf64.Pt} (h : Co.Low n p) : (Sf64.told p).length = n + 1 := by
  unfold Sf64.told
  rw [List.length_append, h.len]
  rfl
theorem told_at {n : Nat} {p : Sf64.Pt} (h : Co.Low n p) : ((Sf64.told p).map V.int)[n]? = some (V.int (p.q : Int)) := by
  unfold Sf64.told
  rw [← h.len]
  exact at_last
theorem told_take {n : Nat} {p : Sf64.Pt} (h : Co.Low n p) : (Sf64.told p).take n = p.x := by
  unfold Sf64.told
  rw [List.take_append_of_le_length (by rw [h.len]; exact Nat.le_refl _), List.take_of_length_le (by rw [h.len]; exact Nat.le_refl _)]
theorem told_inj {n : Nat} {p r : Sf64.Pt} (hp : Co.Low n p) (hr : Co.Low n r) : (Sf64.told p = Sf64.told r) ↔ p = r := by
  constructor
  · intro e
    have h1 := told_take hp
    have h2 := told_take hr
    rw [e] at h1
    have hx : p.x = r.x := h1.symm.trans h2
    have hq : (p.q : Int) = (r.q : Int) := by
      have := told_at hp
      rw [e, told_at hr] at this
      injection this with this
      injection this with this
      exact this.symm
    cases p
    cases r
    simp only at hx hq
    subst hx
    have : _ = _ := Int.ofNat.inj hq
    subst this
    rfl
  · rintro rfl; rfl
theorem cross_low {n : Nat} {C : List Sf64.Row} {p : Sf64.Pt} (h : Dt.cross n C = some p) : Co.Low n p := by
  unfold Dt.cross at h
  split at h
  · cases h
  · rename_i hq
    cases h
    have := Co.lowest_low (x := (List.range n).map fun k => Dt.detC n (C.map fun r => r.a.set k r.b)) hq
    rw [List.length_map, List.length_range] at this
    exact this
theorem div_le_abs {z : Int} {g : Nat} (hg : 0 < g) : (z / (g : Int)).natAbs ≤ z.natAbs := by
  have := Int.natAbs_ediv_le_natAbs z (g : Int)
  exact this
theorem cross_bd {n : Nat} {C : List Sf64.Row} {p : Sf64.Pt} (hn : n ≤ 3) (hl : C.length = n) (hb : ∀ r ∈ C, BdN 1000 (Sf64.flat r)) (h : Dt.cross n C = some p) : p.q ≤ 6000000000 ∧ BdN 6000000000 p.x := by
  have hdt : (Dt.detC n (C.map fun r => r.a)).natAbs ≤ 6000000000 := Nat.le_trans (detC_bd n (by rw [List.length_map]; exact hl) fun r hr' z hz => by
    obtain ⟨s, hs, rfl⟩ := List.mem_map.mp hr'
    exact hb s hs z (List.mem_append_left _ hz)) (Dn_top hn)
  have hdk : ∀ k, (Dt.detC n (C.map fun r => r.a.set k r.b)).natAbs ≤ 6000000000 := fun k => Nat.le_trans (detC_bd n (by rw [List.length_map]; exact hl) fun r hr' z hz => by
    obtain ⟨s, hs, rfl⟩ := List.mem_map.mp hr'
    rcases List.mem_or_eq_of_mem_set hz with q | q
    · exact hb s hs z (List.mem_append_left _ q)
    · exact hb s hs z (by rw [q]; exact List.mem_append_right _ (List.mem_singleton.mpr rfl))) (Dn_top hn)
  unfold Dt.cross at h
  split at h
  · cases h
  · rename_i hq
    cases h
    rw [Co.lowest_def]
    refine ⟨Nat.le_trans (Nat.div_le_self _ _) hdt, fun z hz => ?_⟩
    obtain ⟨y, hy, rfl⟩ := List.mem_map.mp hz
    obtain ⟨k, _, rfl⟩ := List.mem_map.mp hy
    have hg : 0 < Co.gall ((List.range n).map fun k => Dt.detC n (C.map fun r => r.a.set k r.b)) (Dt.detC n (C.map fun r => r.a)).natAbs := Co.gall_pos (by omega)
    refine Nat.le_trans (div_le_abs hg) ?_
    split
    · rw [Int.natAbs_neg]; exact hdk k
    · exact hdk k
theorem gather_len {n : Nat} {A : List Sf64.Row} : ∀ (Cs : List (List Sf64.Row)) (L : List Sf64.Pt), (Cs.foldl (Dt.gather n A) L).length ≤ L.length + Cs.length
  | [], L => by simp
  | C :: Cs, L => by
    rw [List.foldl_cons, List.length_cons]
    have h1 := gather_len (n := n) (A := A) Cs (Dt.gather n A L C)
    have h2 : (Dt.gather n A L C).length ≤ L.length + 1 := by
      unfold Dt.gather
      split
      · omega
      · split
        · rw [List.length_append]; exact Nat.le_refl _
        · omega
    omega
theorem gather_take {n : Nat} {A : List Sf64.Row} {Cs : List (List Sf64.Row)} {i : Nat} {C : List Sf64.Row} (h : Cs[i]? = some C) : (Cs.take (i + 1)).foldl (Dt.gather n A) [] = Dt.gather n A ((Cs.take i).foldl (Dt.gather n A) []) C := by
  rw [take_snoc h, List.foldl_append]
  rfl
theorem gather_all {n : Nat} {A : List Sf64.Row} {P : Sf64.Pt → Prop} : ∀ (Cs : List (List Sf64.Row)) (L : List Sf64.Pt), (∀ p ∈ L, P p) → (∀ C ∈ Cs, ∀ p, Dt.cross n C = some p → P p) → ∀ p ∈ Cs.foldl (Dt.gather n A) L, P p
  | [], L, h, _ => h
  | C :: Cs, L, h, k => by
    rw [List.foldl_cons]
    refine gather_all Cs _ (fun p hp => ?_) fun C' hC' => k C' (List.mem_cons_of_mem _ hC')
    unfold Dt.gather at hp
    split at hp
    · exact h p hp
    · rename_i q e
      split at hp
      · rcases List.mem_append.mp hp with hp | hp
        · exact h p hp
        · rw [List.mem_singleton.mp hp]
          exact k C (List.mem_cons_self ..) q e
      · exact h p hp
theorem rows_ne {H : Hp} {D a : Addr} {rs : List Addr} {z : Int} {ns : List Int} (hD : H D = some (.lst (rs.map V.ref))) (ha : LI H a (ns ++ [z])) : a ≠ D := fun e => by
  have ha : H a = some (.lst ((ns ++ [z]).map V.int)) := ha
  rw [e, hD] at ha
  injection ha with ha
  injection ha with ha
  cases rs with
  | nil => rw [List.map_append] at ha; simp at ha
  | cons r rs =>
    cases ns with
    | nil => simp at ha
    | cons n ns => simp at ha
theorem gather_none {n : Nat} {A : List Sf64.Row} {L : List Sf64.Pt} {C : List Sf64.Row} (e : Dt.cross n C = none) : Dt.gather n A L C = L := by
  unfold Dt.gather
  rw [e]
theorem gather_some {n : Nat} {A : List Sf64.Row} {L : List Sf64.Pt} {C : List Sf64.Row} {p : Sf64.Pt} (e : Dt.cross n C = some p) : Dt.gather n A L C = if p ∉ L ∧ Se02.meets A p = true then L ++ [p] else L := by
  unfold Dt.gather
  rw [e]
theorem notin_iff {n : Nat} {L : List Sf64.Pt} {p : Sf64.Pt} (hL : ∀ q ∈ L, Co.Low n q) (hp : Co.Low n p) : (!((L.map Sf64.told).any fun r => decide (r = Sf64.told p))) = true ↔ p ∉ L := by
  rw [Bool.not_eq_true', List.any_eq_false]
  constructor
  · intro h hm
    exact h (Sf64.told p) (List.mem_map.mpr ⟨p, hm, rfl⟩) (decide_eq_true rfl)
  · intro h r hr
    obtain ⟨q, hq, rfl⟩ := List.mem_map.mp hr
    intro z
    have := (told_inj (hL q hq) hp).mp (of_decide_eq_true z)
    exact h (this ▸ hq)
theorem paired_unmap {α β γ : Type} {F : α → γ → Prop} {f : β → γ} : ∀ {l : List α} {m : List β}, Paired F l (m.map f) → Paired (fun a b => F a (f b)) l m
  | [], [], _ => .nil
  | _ :: _, _ :: _, .cons q t => .cons q (paired_unmap t)
theorem none_back {H H' : Hp} {p : Addr} (s : Same H H') (h : H' p = none) : H p = none := by
  cases e : H p with
  | none => rfl
  | some o =>
    have := s _ _ e
    rw [h] at this
    cases this
end Sd
namespace Sd
open PySem PySem.Spec PyProof.Rows L2
theorem key_len {S : Int} {n : Nat} {p : Sf64.Pt} (h : Co.Low n p) : (Dt.key S p).length = n := by
  unfold Dt.key
  rw [List.length_map, h.len]
theorem key_inj {L : List Sf64.Pt} {n : Nat} (hL : ∀ p ∈ L, Co.Low n p) {p r : Sf64.Pt} (hp : p ∈ L) (hr : r ∈ L) (e : Dt.key (Dt.shared L) p = Dt.key (Dt.shared L) r) : p = r := by
  have lp := hL p hp
  have lr := hL r hr
  have hS := Dt.shared_pos (L := L) fun q hq => (hL q hq).pos
  have h1 := lp.pos
  have h2 := lr.pos
  refine Co.low_one lp lr ?_
  unfold Dt.key at e
  obtain ⟨_, g⟩ := Co.cross_get e
  refine Co.map_cross (by rw [lp.len, lr.len]) fun i a b => ?_
  have q := g i a b
  exact ((Dt.key_step (P := (p.q : Int)) (Q := (r.q : Int)) (S := Dt.shared L) (by omega) (by omega) hS (Int.mul_ediv_cancel' (Dt.shared_dvd hp)).symm (Int.mul_ediv_cancel' (Dt.shared_dvd hr)).symm).2).mp q
theorem keys_nodup {L : List Sf64.Pt} {n : Nat} (hL : ∀ p ∈ L, Co.Low n p) (hn : L.Nodup) : (L.map (Dt.key (Dt.shared L))).Nodup := by
  unfold List.Nodup
  rw [List.pairwise_map]
  exact List.Pairwise.imp_of_mem (fun ha hb h e => h (key_inj hL ha hb e)) hn
theorem le_of_lt : ∀ {a b : List Int}, a.length = b.length → Kl.lexLt b a = false → Dt.lexLe a b = true
  | [], [], _, _ => rfl
  | x :: l, y :: m, h, e => by
    unfold Kl.lexLt at e
    show (decide (x < y) || (x == y && Dt.lexLe l m)) = true
    by_cases hxy : y = x
    · rw [if_pos hxy] at e
      rw [hxy, le_of_lt (by simpa using h) e]
      simp
    · rw [if_neg hxy] at e
      have := of_decide_eq_false e
      rw [decide_eq_true (show x < y by omega), Bool.true_or]
theorem picked {L : List Sf64.Pt} {n : Nat} (hL : ∀ p ∈ L, Co.Low n p) {pm : List Nat} (h : Sk.Sorted (L.map (Dt.key (Dt.shared L))) pm) : (∀ i ∈ pm, i < L.length) ∧ (pm.map fun i => L.getD i ⟨[], 0⟩).Perm L ∧ (pm.map fun i => L.getD i ⟨[], 0⟩).Pairwise fun p r => Dt.lexLe (Dt.key (Dt.shared L) p) (Dt.key (Dt.shared L) r) = true := by
  obtain ⟨h1, h2⟩ := h
  rw [List.length_map] at h1
  have hlt : ∀ i ∈ pm, i < L.length := fun i hi => List.mem_range.mp (h1.mem_iff.mp hi)
  refine ⟨hlt, ?_, ?_⟩
  · have := h1.map fun i => L.getD i ⟨[], 0⟩
    rw [Sk.pick_range] at this
    exact this
  · rw [List.pairwise_map]
    refine h2.imp_of_mem fun {i j} hi hj e => ?_
    have g : ∀ i, i < L.length → (L.map (Dt.key (Dt.shared L))).getD i [] = Dt.key (Dt.shared L) (L.getD i ⟨[], 0⟩) := fun i hi => by
      rw [List.getD_eq_getElem?_getD, List.getD_eq_getElem?_getD, List.getElem?_map, List.getElem?_eq_getElem hi]
      rfl
    rw [g i (hlt i hi), g j (hlt j hj)] at e
    refine le_of_lt ?_ e
    rw [key_len (hL _ (getD_mem (hlt i hi))), key_len (hL _ (getD_mem (hlt j hj)))]
theorem shared_take {L : List Sf64.Pt} {i : Nat} {p : Sf64.Pt} (h : L[i]? = some p) : Dt.shared (L.take (i + 1)) = Dt.shared (L.take i) * (p.q : Int) := by
  unfold Dt.shared
  rw [take_snoc h, List.foldl_append]
  rfl
theorem pick_rows {H : Hp} {as : List Addr} {L : List Sf64.Pt} (hP : Paired (fun a p => LI H a (Sf64.told p)) as L) : ∀ {pm : List Nat}, (∀ i ∈ pm, i < L.length) → (pm.map fun i => (as.map V.ref).getD i .non) = (pm.map fun i => as.getD i 0).map V.ref ∧ Paired (fun a r => LI H a r) (pm.map fun i => as.getD i 0) ((pm.map fun i => L.getD i ⟨[], 0⟩).map Sf64.told)
  | [], _ => ⟨rfl, .nil⟩
  | i :: pm, h => by
    have hi := h i (List.mem_cons_self ..)
    have hia : i < as.length := by rw [paired_len hP]; exact hi
    obtain ⟨p, hp, hL⟩ := paired_get hP (List.getElem?_eq_getElem hia)
    obtain ⟨h1, h2⟩ := pick_rows hP (pm := pm) fun j hj => h j (List.mem_cons_of_mem _ hj)
    have e1 : (as.map V.ref).getD i .non = V.ref (as.getD i 0) := by
      rw [List.getD_eq_getElem?_getD, List.getD_eq_getElem?_getD, List.getElem?_map, List.getElem?_eq_getElem hia]
      rfl
    have e2 : as.getD i 0 = as[i] := by rw [List.getD_eq_getElem?_getD, List.getElem?_eq_getElem hia]; rfl
    have e3 : L.getD i ⟨[], 0⟩ = p := by rw [List.getD_eq_getElem?_getD, hp]; rfl
    constructor
    · rw [List.map_cons, List.map_cons, List.map_cons, h1, e1]
    · rw [List.map_cons, List.map_cons, List.map_cons, e2, e3]
      exact .cons hL h2
end Sd
namespace Sd
open PySem PySem.Spec PyProof.Rows L2
theorem told_total {n : Nat} : ∀ {L : List Sf64.Pt}, (∀ p ∈ L, Co.Low n p) → ((L.map Sf64.told).flatten).length = L.length * (n + 1)
  | [], _ => by simp
  | p :: L, h => by
    rw [List.map_cons, List.flatten_cons, List.length_append, told_len (h p (List.mem_cons_self ..)), told_total fun q hq => h q (List.mem_cons_of_mem _ hq), List.length_cons, Nat.succ_mul]
    omega
theorem corners_len {n : Nat} {A : List Sf64.Row} (hn : n ≤ 3) (hf : A.length ≤ 8) (hp : (Se02.cornersOf n A).Perm (Dt.found n A)) : (Se02.cornersOf n A).length ≤ 1000 ∧ ((Se02.cornersOf n A).map Sf64.told).flatten.length ≤ 1000000 := by
  have hlow : ∀ p ∈ Dt.found n A, Co.Low n p := gather_all _ _ (fun p hp => by cases hp) fun C _ p e => cross_low e
  have hlen : (Dt.found n A).length ≤ 64 := by
    have h1 := gather_len (n := n) (A := A) (Dt.chosen A n) []
    have h2 := chosen_few (n := n) hf hn
    have : ([] : List Sf64.Pt).length = 0 := rfl
    unfold Dt.found
    omega
  have e := told_total (n := n) (L := Se02.cornersOf n A) fun p h => hlow p (hp.mem_iff.mp h)
  have el := hp.length_eq
  refine ⟨by omega, ?_⟩
  rw [e]
  have := Nat.mul_le_mul (show (Se02.cornersOf n A).length ≤ 64 by omega) (show n + 1 ≤ 4 by omega)
  omega
end Sd
namespace Sd
open PySem PySem.Spec PyProof.Rows L2
def top (i : Nat) : Stmt := PySem.Challenge.pw_sidesleft_s05_corners.main.body.getD i (.Pass ⟨0, 0, 0, 0⟩)
abbrev s_cut : Stmt := top 1
abbrev s_in_one_row : Stmt := top 2
abbrev s_is_met : Stmt := top 3
abbrev s_meets_all : Stmt := top 4
abbrev s_common_divisor : Stmt := top 5
abbrev s_in_lowest_terms : Stmt := top 6
abbrev s_choices : Stmt := top 7
abbrev s_determinant : Stmt := top 8
abbrev s_with_b_for : Stmt := top 9
abbrev s_crossing : Stmt := top 10
abbrev s_in_order : Stmt := top 11
abbrev s_corner_points : Stmt := top 12
abbrev s_corners : Stmt := top 17
abbrev s_refusal : Stmt := top 18
abbrev s_counted : Stmt := top 19
abbrev s_fit_unknowns : Stmt := top 20
abbrev s_fit_row : Stmt := top 21
abbrev s_fit_numbers : Stmt := top 22
abbrev s_fit_rows : Stmt := top 23
abbrev s_fit_sides : Stmt := top 24
section
variable {P : Program} {w : World} {K : PySem.W.Frag} {mg : Str → Option Value} {base : Heap}
/-! ### the shared defs -/
theorem sc_refusal : FnScope [] [] (defScope s_refusal) := ⟨rfl, rfl, rfl, by decide +kernel, rfl, by decide +kernel, by decide +kernel⟩
theorem ok_refusal {f : Addr} {fd : FuncData} (F : Fun K "refusal" "refusal" s_refusal f fd) : FnOk P w K mg base CX0 1 f fd [] spRefusal := by
  refine F.ok sc_refusal (fun vs H Q E h => ?_) (fun cdv A outer s H vs Q E hr h => ?_)
  · obtain ⟨rfl, _⟩ := h
    rfl
  · obtain ⟨rfl, k⟩ := h
    refine ⟨_, pss_one (ps_ret (pe_lst (pa_cons (pe_un un_neg pe_int) pa_nil))), ?_⟩
    refine ⟨_, rfl, (by show 1 ≤ sizeLine; decide), fun p hp => ?_⟩
    exact k p hp
theorem sc_unknowns : FnScope ["d"] ["d"] (defScope s_fit_unknowns) := ⟨rfl, rfl, rfl, by decide +kernel, rfl, by decide +kernel, by decide +kernel⟩
theorem ok_unknowns {f : Addr} {fd : FuncData} {t : Tok} (hm : mg "MOST_UNKNOWNS" = some (.int 3 t)) (F : Fun K "fit_unknowns" "fit_unknowns" s_fit_unknowns f fd) : FnOk P w K mg base CX0 1 f fd ["d"] spUnknowns := by
  refine F.ok sc_unknowns (fun vs H Q E h => ?_) (fun cdv A outer s H vs Q E hr h => ?_)
  · obtain ⟨d, rfl, _⟩ := h
    rfl
  · obtain ⟨d, rfl, k⟩ := h
    refine ⟨_, pss_one (ps_ret (pe_chain op_le op_le pe_int (pv 0) (pe_glob (v := .int 3) rfl hm ⟨_, rfl⟩))), ?_⟩
    refine ⟨_, rfl, _, _, rfl, rfl, _, rfl, ite2 (fun h1 => ?_) fun h1 => ?_⟩
    · refine ⟨_, _, rfl, rfl, ?_⟩
      rw [h1, Bool.true_and] at k
      exact k
    · rw [Bool.eq_false_iff.mpr h1, Bool.false_and] at k
      exact k
theorem sc_row : FnScope ["row", "size", "low", "high", "n"] ["row", "size", "low", "high"] (defScope s_fit_row) := ⟨rfl, rfl, rfl, by decide +kernel, rfl, by decide +kernel, by decide +kernel⟩
theorem ok_row {f : Addr} {fd : FuncData} (hlen : mg "len" = none) (hall : mg "all" = none) (F : Fun K "fit_row" "fit_row" s_fit_row f fd) : FnOk P w K mg base CX0 1 f fd ["row", "size", "low", "high"] (spRow K) := by
  refine F.ok sc_row (fun vs H Q E h => ?_) (fun cdv A outer s H vs Q E hr h => ?_)
  · obtain ⟨a, size, lo, hi, ns, rfl, _⟩ := h
    rfl
  · obtain ⟨a, size, lo, hi, ns, rfl, hS, hl, k⟩ := h
    refine ⟨_, pss_one (ps_ret (pe_and (pe_cmpR op_eq (pe_callB call_len_seq (by rfl) hlen PySem.boot_len (pa_cons (pv 0) pa_nil)) (pv 1) (nomark _))
      (pe_one (pe_callB (cr_all rfl) (by rfl) hall PyProof.Rows.boot_all (pa_cons (pe_lc rfl sc_row.nd (pi_list (pv 0)) (own := [("n", 4)]) (blkOk_by (by show blkC ["row", "size", "low", "high", "n"] (defScope s_fit_row) _ _ = true; decide +kernel)) (fun s H C cl fp => pg_name (i := 4) sc_row.nd rfl (Or.inl rfl)) (fun s H C cl fp => pts_nil)
        (fun s H C cl fp => pe_chain op_le op_le (pv 2) (pv 4) (pv 3))) pa_nil))))), ?_⟩
    refine ⟨_, rfl, a, _, rfl, .inl hS, _, rfl, rfl, _, rfl, ite2 (fun h1 => ?_) fun h1 => ?_⟩
    · refine ⟨_, rfl, a, rfl, ⟨_, hS⟩, fun D hD => lc_l (bs := ns) (fun v z => v = V.int z) (fun _ y b => y = V.bl b) (fun z => some (inB lo hi z)) hD (by rw [sizeLine_eq]; omega) hS (paired_map_int ns) (relK V.bl) ?_ ?_⟩
      · rintro x c H2 Ky Kn _ rfl s2 _ k1 k2
        refine ⟨rfl, yes_k ?_⟩
        refine ⟨_, rfl, _, rfl, _, _, rfl, rfl, _, rfl, ite2 (fun h2 => ?_) fun h2 => ?_⟩
        · refine ⟨_, rfl, _, _, rfl, rfl, k1 _ _ _ rfl (Same.refl _) ?_⟩
          unfold inB
          rw [h2, Bool.true_and]
        · refine k1 _ _ _ rfl (Same.refl _) ?_
          unfold inB
          rw [Bool.eq_false_iff.mpr h2, Bool.false_and]
      · intro H2 ys s2 hD2 hp
        have e := paired_eq hp
        rw [fm_some] at e
        refine ⟨_, _, rfl, SqL.of (hD2.trans (by rw [e])), ?_⟩
        have q := k H2 s2
        unfold fitR at q
        have e1 : decide ((ns.length : Int) = size) = true := by
          have z := of_decide_eq_true h1
          rw [List.length_map] at z
          injection z with z
          exact decide_eq_true z
        rw [e1, Bool.true_and] at q
        have e2 : (ns.map (inB lo hi)).all id = ns.all (inB lo hi) := by rw [List.all_map]; rfl
        rw [e2]
        exact q
    · have q := k H (Same.refl H)
      unfold fitR at q
      have e1 : decide ((ns.length : Int) = size) = false := by
        refine decide_eq_false fun z => h1 (decide_eq_true ?_)
        rw [List.length_map, z]
      rw [e1, Bool.false_and] at q
      exact q
theorem sc_numbers : FnScope ["row", "size"] ["row", "size"] (defScope s_fit_numbers) := ⟨rfl, rfl, rfl, by decide +kernel, rfl, by decide +kernel, by decide +kernel⟩
theorem ok_numbers {f f1 : Addr} {fd fd1 : FuncData} {t : Tok} (hm : mg "MOST_NUMBER" = some (.int 1000 t)) (G1 : FnOk P w K mg base CX0 1 f1 fd1 ["row", "size", "low", "high"] (spRow K)) (m1 : mg "fit_row" = some (.ref f1)) (k1 : PySem.W.keepIn K (.ref f1) = true) (b1 : Binds K fd1 ["row", "size", "low", "high"] [])
    (F : Fun K "fit_numbers" "fit_numbers" s_fit_numbers f fd) : FnOk P w K mg base CX0 2 f fd ["row", "size"] (spNumbers K) := by
  refine F.ok sc_numbers (fun vs H Q E h => ?_) (fun cdv A outer s H vs Q E hr h => ?_)
  · obtain ⟨a, size, ns, rfl, _⟩ := h
    rfl
  · obtain ⟨a, size, ns, rfl, hS, hl, k⟩ := h
    refine ⟨_, pss_one (ps_ret (pe_call G1 hr rfl m1 k1 b1 .nil pass0 (pa_cons (pv 0) (pa_cons (pv 1) (pa_cons (pe_un un_neg (pe_glob (v := .int 1000) rfl hm ⟨_, rfl⟩)) (pa_cons (pe_glob (v := .int 1000) rfl hm ⟨_, rfl⟩) pa_nil)))))), ?_⟩
    exact ⟨_, rfl, _, rfl, _, rfl, a, size, _, _, ns, rfl, hS, hl, k⟩
theorem sc_fitrows : FnScope ["row", "size", "fewest", "most", "many"] ["row", "size", "fewest", "most"] (defScope s_fit_rows) := ⟨rfl, rfl, rfl, by decide +kernel, rfl, by decide +kernel, by decide +kernel⟩
theorem ok_fitrows {f f2 : Addr} {fd fd2 : FuncData} (hlen : mg "len" = none) (m2 : mg "fit_numbers" = some (.ref f2)) (k2 : PySem.W.keepIn K (.ref f2) = true) (G2 : FnOk P w K mg base CX0 2 f2 fd2 ["row", "size"] (spNumbers K)) (b2 : Binds K fd2 ["row", "size"] [])
    (F : Fun K "fit_rows" "fit_rows" s_fit_rows f fd) : FnOk P w K mg base CX0 3 f fd ["row", "size", "fewest", "most"] (spFitRows K) := by
  refine F.ok sc_fitrows (fun vs H Q E h => ?_) (fun cdv A outer s H vs Q E hr h => ?_)
  · obtain ⟨a, size, lo, hi, ns, rfl, _⟩ := h
    rfl
  · obtain ⟨a, size, lo, hi, ns, rfl, h1, h2, hS, hl, k⟩ := h
    refine ⟨_, pss_cons (ps_set (i := 4) sc_fitrows.nd rfl (Or.inl rfl) (pe_op op_fdiv (pe_callB call_len_seq (by rfl) hlen PySem.boot_len (pa_cons (pv 0) pa_nil)) (pv 1)))
      (pss_one (ps_ret (pe_and (pe_chain op_le op_le (pv 2) (pv 4) (pv 3))
        (pe_one (pe_call G2 hr rfl m2 k2 b2 .nil pass0 (pa_cons (pv 0) (pa_cons (pe_op op_mul (pv 4) (pv 1)) pa_nil))))))), ?_⟩
    refine ⟨_, rfl, a, _, rfl, .inl hS, _, rfl, _, _, rfl, rfl, ⟨by omega, by omega⟩, ?_⟩
    rw [List.length_map]
    unfold fitRs at k
    refine ⟨_, rfl, _, rfl, _, _, rfl, rfl, _, rfl, ite2 (fun c1 => ?_) fun c1 => ?_⟩
    · rw [c1, Bool.true_and] at k
      refine ⟨_, rfl, _, _, rfl, rfl, _, rfl, ite2 (fun c2 => ?_) fun c2 => ?_⟩
      · rw [c2, Bool.true_and] at k
        refine ⟨_, rfl, _, rfl, _, rfl, _, _, rfl, rfl, .inr ⟨by omega, by omega⟩, a, _, ns, rfl, hS, hl, k⟩
      · rw [Bool.eq_false_iff.mpr c2, Bool.false_and] at k
        exact k H (Same.refl H)
    · rw [Bool.eq_false_iff.mpr c1, Bool.false_and, Bool.false_and] at k
      exact ⟨_, rfl, iteF (k H (Same.refl H))⟩
theorem sc_cut : FnScope ["row", "size", "start"] ["row", "size"] (defScope s_cut) := ⟨rfl, rfl, rfl, by decide +kernel, rfl, by decide +kernel, by decide +kernel⟩
theorem ok_cut {f : Addr} {fd : FuncData} (hlen : mg "len" = none) (hran : mg "range" = none) (F : Fun K "cut" "cut" s_cut f fd) : FnOk P w K mg base CX0 1 f fd ["row", "size"] (spCut K) := by
  refine F.ok sc_cut (fun vs H Q E h => ?_) (fun cdv A outer s H vs Q E hr h => ?_)
  · obtain ⟨a, n, m, ns, rfl, _⟩ := h
    rfl
  · obtain ⟨a, n, m, ns, rfl, hn0, hn1, hnm, hl, hS, k⟩ := h
    refine ⟨_, pss_one (ps_ret (pe_lc rfl sc_cut.nd (pi_range3 (by rfl) hran (pa_cons pe_int (pa_cons (pe_callB call_len_seq (by rfl) hlen PySem.boot_len (pa_cons (pv 0) pa_nil)) (pa_cons (pv 1) pa_nil)))) (own := [("start", 2)]) (blkOk_by (by show blkC ["row", "size", "start"] (defScope s_cut) _ _ = true; decide +kernel)) (fun s H C cl fp => pg_name (i := 2) sc_cut.nd rfl (Or.inl rfl)) (fun s H C cl fp => pts_nil)
      (fun s H C cl fp => pe_slice (r := rSlL K) sl_list (pv 0) (po_some (pv 2)) (po_some (pe_op op_add (pv 2) (pv 1)))))), ?_⟩
    refine ⟨_, rfl, a, _, rfl, .inl hS, _, rfl, 0, _, _, m, rfl, rg_up hn0 hn1 (by rw [List.length_map]; exact hnm) (by rw [List.length_map]; exact hl), fun D hD => ?_⟩
    refine lc_c (β := List Int) (fun H' y r => ∃ p, y = V.ref p ∧ p ≠ D ∧ H' p = some (.lst (r.map V.int))) (fun i => (ns.drop (i * n)).take n) hD (by rw [sizeLine_eq]; have := Nat.le_mul_of_pos_right m hn0; omega) (fun H1 H2 y b s1 ⟨p, e, ne, h1⟩ => ⟨p, e, ne, s1 _ _ ne h1⟩) ?_ ?_
    · rintro i H2 Ky Kn hi s2 ⟨acc, hacc⟩ k1
      refine ⟨rfl, yes_k ?_⟩
      refine ⟨_, rfl, _, rfl, _, rfl, _, rfl, _, rfl, _, _, rfl, rfl, _, rfl, a, _, rfl, s2.seq hS, fun p hp => k1 _ _ (same_new hp) ⟨p, rfl, fun e => ?_, ?_⟩⟩
      · rw [e, hacc] at hp
        cases hp
      · rw [upd_same, cut_at hi hnm]
    · intro H2 ys s2 hD2 hp
      obtain ⟨as, rfl, h3⟩ := paired_refs (G := fun a r => LI H2 a r) (fun v r ⟨p, e, _, h⟩ => ⟨p, e, h⟩) hp
      exact k H2 D s2 hD ⟨as, hD2, h3⟩
theorem sc_sides : FnScope ["d", "sides"] ["d", "sides"] (defScope s_fit_sides) := ⟨rfl, rfl, rfl, by decide +kernel, rfl, by decide +kernel, by decide +kernel⟩
theorem ok_sides {f f1 f2 : Addr} {fd fd1 fd2 : FuncData} {t3 : Tok} (h3 : mg "MOST_SIDES" = some (.int 8 t3)) (G1 : FnOk P w K mg base CX0 1 f1 fd1 ["d"] spUnknowns) (G2 : FnOk P w K mg base CX0 3 f2 fd2 ["row", "size", "fewest", "most"] (spFitRows K))
    (m1 : mg "fit_unknowns" = some (.ref f1)) (m2 : mg "fit_rows" = some (.ref f2)) (k1 : PySem.W.keepIn K (.ref f1) = true) (k2 : PySem.W.keepIn K (.ref f2) = true)
    (b1 : Binds K fd1 ["d"] []) (b2 : Binds K fd2 ["row", "size", "fewest", "most"] []) (F : Fun K "fit_sides" "fit_sides" s_fit_sides f fd) : FnOk P w K mg base CX0 4 f fd ["d", "sides"] (spSides K) := by
  refine F.ok sc_sides (fun vs H Q E h => ?_) (fun cdv A outer s H vs Q E hr h => ?_)
  · obtain ⟨d, a, ns, rfl, _⟩ := h
    rfl
  · obtain ⟨d, a, ns, rfl, hS, hl, k⟩ := h
    have hr1 : Room 1 _ := hr.mono (by decide)
    refine ⟨_, pss_one (ps_ret (pe_and (pe_call G1 hr1 rfl m1 k1 b1 .nil pass0 (pa_cons (pv 0) pa_nil))
      (pe_one (pe_call G2 hr rfl m2 k2 b2 .nil pass0 (pa_cons (pv 1) (pa_cons (pe_op op_add (pv 0) pe_int) (pa_cons pe_int (pa_cons (pe_glob (v := .int 8) rfl h3 ⟨_, rfl⟩) pa_nil)))))))), ?_⟩
    refine ⟨_, rfl, d, rfl, _, rfl, ?_⟩
    unfold fitS at k
    refine ite2 (fun hd => ?_) fun hd => ?_
    · have hd1 : 1 ≤ d ∧ d ≤ 3 := by
        rw [Bool.and_eq_true] at hd
        exact ⟨of_decide_eq_true hd.1, of_decide_eq_true hd.2⟩
      rw [hd, Bool.true_and, ← fitRs_sides hd1.1] at k
      exact ⟨_, rfl, _, rfl, _, _, rfl, rfl, a, _, _, _, ns, rfl, by omega, by omega, hS, hl, k⟩
    · rw [Bool.eq_false_iff.mpr hd, Bool.false_and] at k
      exact k H (Same.refl H)
theorem sc_ismet : FnScope ["side", "q", "x", "d", "total", "i"] ["side", "q", "x"] (defScope s_is_met) := ⟨rfl, rfl, rfl, by decide +kernel, rfl, by decide +kernel, by decide +kernel⟩
theorem ok_ismet {f : Addr} {fd : FuncData} (hlen : mg "len" = none) (hsum : mg "sum" = none) (hran : mg "range" = none) (F : Fun K "is_met" "is_met" s_is_met f fd) : FnOk P w K mg base CX0 1 f fd ["side", "q", "x"] (spIsMet K) := by
  refine F.ok sc_ismet (fun vs H Q E h => ?_) (fun cdv A outer s H vs Q E hr h => ?_)
  · obtain ⟨a, x, q, r, xs, rfl, _⟩ := h
    rfl
  · obtain ⟨a, x, q, r, xs, rfl, hA, hX, hlx, hl, hB, k⟩ := h
    refine ⟨_, pss_cons (ps_set (i := 3) sc_ismet.nd rfl (Or.inl rfl) (pe_callB call_len_seq (by rfl) hlen PySem.boot_len (pa_cons (pv 2) pa_nil)))
      (pss_cons (ps_set (i := 4) sc_ismet.nd rfl (Or.inl rfl) (pe_callB (cr_sum rfl) (by rfl) hsum PyProof.Rows.boot_sum (pa_cons (pe_lc rfl sc_ismet.nd (pi_range1 (by rfl) hran (pa_cons (pv 3) pa_nil)) (own := [("i", 5)]) (blkOk_by (by show blkC ["side", "q", "x", "d", "total", "i"] (defScope s_is_met) _ _ = true; decide +kernel))
        (fun s H C cl fp => pg_name (i := 5) sc_ismet.nd rfl (Or.inl rfl)) (fun s H C cl fp => pts_nil) (fun s H C cl fp => pe_op op_mul (pe_ix (r := rIxL K) ix_list (pv 0) (pv 5) (fun _ _ => rfl)) (pe_ix (r := rIxL K) ix_list (pv 2) (pv 5) (fun _ _ => rfl)))) pa_nil)))
      (pss_one (ps_ret (pe_cmpR op_le (pv 4) (pe_op op_mul (pe_ix (r := rIxL K) ix_list (pv 0) (pv 3) (fun _ _ => rfl)) (pv 1)) (nomark _))))), ?_⟩
    have hf : (Sf64.flat r).length = xs.length + 1 := by unfold Sf64.flat; rw [List.length_append, hlx]; rfl
    refine ⟨_, rfl, x, _, rfl, .inl hX, ?_⟩
    refine ⟨_, rfl, (xs.length : Int), by rw [List.length_map], by omega, by omega, fun D hD => ?_⟩
    refine lc_r (β := Int) (fun _ y z => y = V.int z) (fun i => r.a.getD i 0 * xs.getD i 0) hD (by rw [sizeLine_eq]; omega) (relK V.int) ?_ ?_
    · rintro i H2 Ky Kn hi s2 _ k1
      have hi : i < xs.length := hi
      refine ⟨rfl, yes_k ?_⟩
      have g1 : ((Sf64.flat r).map V.int)[i]? = some (V.int (r.a.getD i 0)) := by
        rw [getD_map V.int (d := 0) (by omega)]
        unfold Sf64.flat
        rw [getD_app (by omega)]
      have g2 : (xs.map V.int)[i]? = some (V.int (xs.getD i 0)) := getD_map V.int hi
      have hb := hB (r.a.getD i 0) (List.mem_append_left _ (getD_mem (by omega)))
      refine ⟨_, rfl, _, rfl, a, _, _, _, rfl, rfl, s2.seq hA, at_of (j := i) (by omega) g1, _, rfl, _, rfl, x, _, _, _, rfl, rfl, s2.seq hX, at_of (j := i) (by omega) g2, _, _, rfl, rfl, .inl ⟨by omega, by omega⟩, ?_⟩
      exact k1 _ _ (Same.refl _) rfl
    · intro H2 ys s2 hD2 hp
      have e := paired_eq hp
      refine ⟨D, _, rfl, SqL.of (hD2.trans (by rw [e])), ?_⟩
      refine ⟨_, rfl, _, rfl, _, rfl, a, _, _, _, rfl, rfl, s2.seq hA, at_of (j := r.a.length) (by rw [hlx, List.length_map]) at_last, _, rfl, _, _, rfl, rfl, ?_⟩
      have hb := hB r.b (List.mem_append_right _ (List.mem_singleton.mpr rfl))
      refine ⟨.inl ⟨by omega, by omega⟩, _, _, rfl, rfl, ?_⟩
      have q := k H2 s2
      rw [dot_range hlx] at q
      exact q
theorem sc_meetsall : FnScope ["sides", "q", "x", "side"] ["sides", "q", "x"] (defScope s_meets_all) := ⟨rfl, rfl, rfl, by decide +kernel, rfl, by decide +kernel, by decide +kernel⟩
theorem ok_meetsall {f f1 : Addr} {fd fd1 : FuncData} (hlen : mg "len" = none) (hsum : mg "sum" = none) (hran : mg "range" = none) (hall : mg "all" = none) (m1 : mg "is_met" = some (.ref f1)) (F1 : Fun K "is_met" "is_met" s_is_met f1 fd1) (b1 : Binds K fd1 ["side", "q", "x"] [])
    (F : Fun K "meets_all" "meets_all" s_meets_all f fd) : FnOk P w K mg base CX0 2 f fd ["sides", "q", "x"] (spMeetsAll K) := by
  have G1 : FnOk P w K mg base CX0 1 f1 fd1 ["side", "q", "x"] (spIsMet K) := ok_ismet hlen hsum hran F1
  refine F.ok sc_meetsall (fun vs H Q E h => ?_) (fun cdv A0 outer s H vs Q E hr h => ?_)
  · obtain ⟨l, x, q, A, xs, rfl, _⟩ := h
    rfl
  · obtain ⟨l, x, q, A, xs, rfl, ⟨as, hL, hP⟩, hX, hlx, hl, hla, hB, k⟩ := h
    refine ⟨_, pss_one (ps_ret (pe_callB (cr_all rfl) (by rfl) hall PyProof.Rows.boot_all (pa_cons (pe_lc rfl sc_meetsall.nd (pi_list (pv 0)) (own := [("side", 3)]) (blkOk_by (by show blkC ["sides", "q", "x", "side"] (defScope s_meets_all) _ _ = true; decide +kernel))
        (fun s H C cl fp => pg_name (i := 3) sc_meetsall.nd rfl (Or.inl rfl)) (fun s H C cl fp => pts_nil) (fun s H C cl fp => pe_call G1 hr rfl m1 F1.kp b1 .nil pass0 (pa_cons (pv 3) (pa_cons (pv 1) (pa_cons (pv 2) pa_nil))))) pa_nil))), ?_⟩
    refine ⟨_, rfl, l, rfl, ⟨_, hL⟩, fun D hD => ?_⟩
    refine lc_l (bs := A) (fun v r => ∃ a, v = V.ref a ∧ Ints K H a (Sf64.flat r)) (fun _ y b => y = V.bl b) (fun r => some (decide (Sf64.dot r.a xs ≤ r.b * q))) hD (by rw [sizeLine_eq]; omega) hL (rows_items hP) (relK V.bl) ?_ ?_
    · rintro v r H2 Ky Kn hr' ⟨a, rfl, ha⟩ s2 _ k1 k2
      refine ⟨rfl, yes_k ?_⟩
      refine ⟨_, rfl, _, rfl, _, rfl, a, x, q, r, xs, rfl, s2.seq ha, s2.seq hX, hlx r hr', hl, hB r hr', fun H3 s3 => k1 _ _ _ rfl s3 rfl⟩
    · intro H2 ys s2 hD2 hp
      have e := paired_eq hp
      rw [fm_some] at e
      refine ⟨D, _, rfl, SqL.of (hD2.trans (by rw [e])), ?_⟩
      have q' := k H2 s2
      have e2 : (A.map fun r => decide (Sf64.dot r.a xs ≤ r.b * q)).all id = A.all fun r => decide (Sf64.dot r.a xs ≤ r.b * q) := by rw [List.all_map]; rfl
      rw [e2]
      exact q'
theorem sc_onerow : FnScope ["rows", "row", "part"] ["rows"] (defScope s_in_one_row) := ⟨rfl, rfl, rfl, by decide +kernel, rfl, by decide +kernel, by decide +kernel⟩
theorem ok_onerow {f : Addr} {fd : FuncData} (F : Fun K "in_one_row" "in_one_row" s_in_one_row f fd) : FnOk P w K mg base CX0 1 f fd ["rows"] spOneRow := by
  refine F.ok sc_onerow (fun vs H Q E h => ?_) (fun cdv A0 outer s0 H vs Q E hr h => ?_)
  · obtain ⟨l, rows, rfl, _⟩ := h
    rfl
  · obtain ⟨l, rows, rfl, ⟨as, hL, hP⟩, hz, hz2, K1⟩ := h
    refine ⟨_, pss_cons (ps_set (i := 1) sc_onerow.nd rfl (Or.inl rfl) (pe_lst pa_nil))
      (pss_cons (ps_for PassesOwn.never rfl (pi_list (pv 0)) (pg_name (i := 2) sc_onerow.nd rfl (Or.inl rfl))
        (pss_one (ps_expr (pe_bm PySem.F.plainAttrs_list PySem.F.slot_list_extend PySem.F.type_list_extend mt_extend (pv 1) (pa_cons (pv 2) pa_nil)))))
      (pss_one (ps_ret (pv 1)))), ?_⟩
    refine ⟨Nat.zero_le _, fun D hD => ?_⟩
    have sD : Same H (upd H D (.lst [])) := same_new hD
    refine ⟨_, rfl, l, rfl, ⟨_, SqL.of (sD _ _ hL)⟩, for_list (K := K) (a := l) (xs := as.map V.ref) (fun i σ H' => ∃ v2 : Option V, σ = [some (.ref l), some (.ref D), v2] ∧ Same H H' ∧ LI H' D (rows.take i).flatten)
      ⟨none, rfl, sD, by rw [List.take_zero]; exact upd_same⟩ (fun i σ H' _ ⟨_, _, s5, _⟩ => SqL.of (s5 _ _ hL)) ?_ ?_⟩
    · rintro i y σ H' hi ⟨v2, rfl, s5, hD'⟩
      obtain ⟨r, hri, a, rfl, ha⟩ := paired_get (rows_itemsG hP) hi
      have hle := flatten_take_le rows (i + 1)
      rw [flatten_take_snoc hri, List.length_append] at hle
      refine ⟨_, rfl, .inl ⟨rfl, _, SqL.of hD'⟩, _, rfl, D, a, _, _, rfl, rfl, hD', s5 _ _ ha, ?_, ?_⟩
      · rw [List.length_map, List.length_map, sizeLine_eq]
        omega
      · refine ⟨_, rfl, same_upd hD s5, ?_⟩
        rw [flatten_take_snoc hri]
        show upd _ _ _ _ = _
        rw [upd_same, List.map_append]
    · rintro σ H' ⟨v2, rfl, s5, hD'⟩
      have el : (as.map V.ref).length = rows.length := paired_len (rows_itemsG hP)
      rw [el, List.take_length] at hD'
      exact ⟨_, rfl, K1 H' D s5 hD hD'⟩
theorem sc_counted : FnScope ["rows"] ["rows"] (defScope s_counted) := ⟨rfl, rfl, rfl, by decide +kernel, rfl, by decide +kernel, by decide +kernel⟩
theorem ok_counted {f f1 : Addr} {fd fd1 : FuncData} (hlen : mg "len" = none) (m1 : mg "in_one_row" = some (.ref f1)) (F1 : Fun K "in_one_row" "in_one_row" s_in_one_row f1 fd1) (b1 : Binds K fd1 ["rows"] [])
    (F : Fun K "counted" "counted" s_counted f fd) : FnOk P w K mg base CX0 2 f fd ["rows"] spCounted := by
  have G1 : FnOk P w K mg base CX0 1 f1 fd1 ["rows"] spOneRow := ok_onerow F1
  refine F.ok sc_counted (fun vs H Q E h => ?_) (fun cdv A0 outer s0 H vs Q E hr h => ?_)
  · obtain ⟨l, rows, rfl, _⟩ := h
    rfl
  · obtain ⟨l, rows, rfl, hR, hz, hz2, K1⟩ := h
    refine ⟨_, pss_one (ps_ret (pe_op op_cat (pe_lst (pa_cons (pe_callB call_len_seq (by rfl) hlen PySem.boot_len (pa_cons (pv 0) pa_nil)) pa_nil)) (pe_call G1 hr rfl m1 F1.kp b1 .nil pass0 (pa_cons (pv 0) pa_nil)))), ?_⟩
    obtain ⟨as, hL, hP⟩ := id hR
    refine ⟨_, rfl, l, _, rfl, .inl (SqL.of hL), (by show 1 ≤ sizeLine; decide), fun p1 hp1 => ?_⟩
    refine ⟨_, rfl, l, rows, rfl, hR.same (same_new hp1), hz, hz2, fun H' p s1 hp hp' => ?_⟩
    refine ⟨p1, p, _, _, rfl, rfl, s1 _ _ upd_same, hp', ?_, fun p2 hp2 => ?_⟩
    · show 1 + (rows.flatten.map V.int).length ≤ sizeLine
      rw [List.length_map, sizeLine_eq]
      omega
    · have el : (as.map V.ref).length = rows.length := paired_len (rows_itemsG hP)
      refine K1 _ p2 (((same_new hp1).trans s1).trans (same_new hp2)) ?_ ?_
      · cases e : H p2 with
        | none => rfl
        | some o =>
          have := ((same_new hp1).trans s1) _ _ e
          rw [hp2] at this
          cases this
      · show upd _ _ _ _ = _
        rw [upd_same, el]
        rfl
theorem sc_gcd : FnScope ["one", "other", "rest"] ["one", "other"] (defScope s_common_divisor) := ⟨rfl, rfl, rfl, by decide +kernel, rfl, by decide +kernel, by decide +kernel⟩
theorem ok_gcd {f : Addr} {fd : FuncData} (habs : mg "abs" = none) (F : Fun K "common_divisor" "common_divisor" s_common_divisor f fd) : FnOk P w K mg base CX0 1 f fd ["one", "other"] spGcd := by
  refine F.ok sc_gcd (fun vs H Q E h => ?_) (fun cdv A0 outer s0 H vs Q E hr h => ?_)
  · obtain ⟨a, b, rfl, _⟩ := h
    rfl
  · obtain ⟨a, b, rfl, K1⟩ := h
    refine ⟨_, pss_cons (ps_while PassesOwn.never (pt_cmpR op_ne (pv 1) pe_int (nomark _))
        (pss_cons (ps_set (i := 2) sc_gcd.nd rfl (Or.inl rfl) (pe_op op_modN (pv 0) (pv 1)))
          (pss_cons (ps_set (i := 0) sc_gcd.nd rfl (Or.inl rfl) (pv 1)) (pss_one (ps_set (i := 1) sc_gcd.nd rfl (Or.inl rfl) (pv 2))))))
      (pss_one (ps_ret (pe_callB call_abs (by rfl) habs PyProof.Rows.boot_abs (pa_cons (pv 0) pa_nil)))), ?_⟩
    refine while_by (fun σ H' => H' = H ∧ ∃ (u v : Int) (t : Option V), σ = [some (.int u), some (.int v), t] ∧ Nat.gcd u.natAbs v.natAbs = Nat.gcd a.natAbs b.natAbs) (fun σ _ => match σ with | [_, some (.int v), _] => v.natAbs | _ => 0) ⟨rfl, a, b, none, rfl, rfl⟩ ?_ ?_
    · rintro σ H' ⟨rfl, u, v, t, rfl, hg⟩
      refine ⟨_, rfl, rfl, _, rfl, ?_⟩
      have e : decide (V.int v = V.int 0) = (v == 0) := dec_int
      rw [e]
      by_cases hv : v = 0
      · subst hv
        refine iteF ?_
        refine ⟨_, rfl, _, rfl, ?_⟩
        have e2 : (if u < 0 then -u else u) = ((Nat.gcd a.natAbs b.natAbs : Nat) : Int) := by
          rw [← hg]
          show _ = ((Nat.gcd u.natAbs 0 : Nat) : Int)
          rw [Nat.gcd_zero_right]
          split <;> omega
        rw [e2]
        exact K1
      · have e3 : (!(v == 0)) = true := by simp [hv]
        rw [e3]
        refine iteT ?_
        refine ⟨_, rfl, _, rfl, _, _, rfl, rfl, hv, _, rfl, _, rfl, ?_⟩
        refine ⟨⟨rfl, v, u.fmod v, _, rfl, ?_⟩, ?_⟩
        · rw [Lo.gcd_fmod, hg]
        · exact Lo.fmod_less hv
    · rintro σ H' Q1 Q2 hq ⟨v, e, hs, k, hk, q⟩
      exact ⟨v, e, hs, k, hk, hq _ _ q⟩
theorem sc_low : FnScope ["row", "shared", "number"] ["row"] (defScope s_in_lowest_terms) := ⟨rfl, rfl, rfl, by decide +kernel, rfl, by decide +kernel, by decide +kernel⟩
theorem ok_low {f f1 : Addr} {fd fd1 : FuncData} (habs : mg "abs" = none) (m1 : mg "common_divisor" = some (.ref f1)) (F1 : Fun K "common_divisor" "common_divisor" s_common_divisor f1 fd1) (b1 : Binds K fd1 ["one", "other"] [])
    (F : Fun K "in_lowest_terms" "in_lowest_terms" s_in_lowest_terms f fd) : FnOk P w K mg base CX0 2 f fd ["row"] (spLowest K) := by
  have G1 : FnOk P w K mg base CX0 1 f1 fd1 ["one", "other"] spGcd := ok_gcd habs F1
  refine F.ok sc_low (fun vs H Q E h => ?_) (fun cdv A0 outer s0 H vs Q E hr h => ?_)
  · obtain ⟨a, x, q, rfl, _⟩ := h
    rfl
  · obtain ⟨a, x, q, rfl, hA, hq, hqT, hl, K1⟩ := h
    refine ⟨_, pss_cons (ps_set (i := 1) sc_low.nd rfl (Or.inr rfl) pe_int)
      (pss_cons (ps_for PassesOwn.never rfl (pi_list (pv 0)) (pg_name (i := 2) sc_low.nd rfl (Or.inl rfl)) (pss_one (ps_set (i := 1) sc_low.nd rfl (Or.inr rfl) (pe_call G1 hr rfl m1 F1.kp b1 .nil pass0 (pa_cons (pv 1) (pa_cons (pv 2) pa_nil))))))
      (pss_cons (ps_if (pt_cmpR op_lt (pe_ix (r := rIxL K) ix_list (pv 0) (pe_un un_neg pe_int) (fun _ _ => rfl)) pe_int (nomark _)) (pss_one (ps_set (i := 1) sc_low.nd rfl (Or.inr rfl) (pe_un un_neg (pv 1)))) pss_nil)
      (pss_one (ps_ret (pe_lc rfl sc_low.nd (pi_list (pv 0)) (own := [("number", 2)]) (blkOk_by (by show blkC ["row", "shared", "number"] (defScope s_in_lowest_terms) _ _ = true; decide +kernel))
        (fun s H C cl fp => pg_name (i := 2) sc_low.nd rfl (Or.inl rfl)) (fun s H C cl fp => pts_nil) (fun s H C cl fp => pe_op op_fdivB (pv 2) (pv 1))))))), ?_⟩
    refine ⟨_, rfl, a, rfl, ⟨_, hA⟩, for_list (K := K) (a := a) (xs := (x ++ [q]).map V.int) (fun i σ H' => H' = H ∧ ∃ v2 : Option V, σ = [some (.ref a), some (.int (Lo.gz ((x ++ [q]).take i) 0 : Nat)), v2])
      ⟨rfl, none, rfl⟩ (fun i σ H' _ ⟨e, _⟩ => by rw [e]; exact hA) ?_ ?_⟩
    · rintro i y σ H' hi ⟨rfl, v2, rfl⟩
      rw [List.getElem?_map] at hi
      obtain ⟨z, hz, rfl⟩ := Option.map_eq_some_iff.mp hi
      refine ⟨_, rfl, _, rfl, _, z, rfl, rfl, some (V.int z), ?_⟩
      have e : Lo.gz ((x ++ [q]).take (i + 1)) 0 = Nat.gcd (((Lo.gz ((x ++ [q]).take i) 0 : Nat) : Int)).natAbs z.natAbs := by
        rw [take_snoc hz]
        unfold Lo.gz
        rw [List.foldl_append]
        rfl
      rw [e]
      rfl
    · rintro σ H' ⟨rfl, v2, rfl⟩
      rw [List.length_map, List.take_length]
      have hg := Lo.gz_le (x := x) hq
      refine ⟨_, rfl, _, rfl, a, _, _, _, rfl, rfl, hA, by rw [List.map_append]; exact atI_last _ _, _, _, rfl, rfl, _, rfl, ?_⟩
      refine ite2 (fun c => ?_) fun c => ?_
      · have hq0 : q < 0 := of_decide_eq_true c
        refine ⟨_, rfl, _, rfl, ?_⟩
        refine ⟨_, rfl, a, rfl, ⟨_, hA⟩, fun D hD => lc_l (bs := x ++ [q]) (fun v z => v = V.int z) (fun _ y z => y = V.int z) (fun z => some (z.fdiv (-((Lo.gz (x ++ [q]) 0 : Nat) : Int)))) hD (by rw [List.length_append, sizeLine_eq]; show x.length + 1 ≤ _; omega) hA (paired_map_int _) (relK V.int) ?_ ?_⟩
        · rintro v z H2 Ky Kn _ rfl s2 _ k1 k2
          refine ⟨rfl, yes_k ?_⟩
          exact ⟨_, rfl, _, rfl, _, _, rfl, rfl, ⟨by omega, by omega⟩, k1 _ _ _ rfl (Same.refl _) rfl⟩
        · intro H2 ys s2 hD2 hp
          have e := paired_eq hp
          rw [fm_some] at e
          refine K1 H2 D s2 hD ?_
          show H2 D = _
          rw [hD2, e, ← Lo.lowest_row hq, if_pos hq0]
      · have hq0 : ¬ q < 0 := fun z => c (decide_eq_true z)
        refine ⟨_, rfl, a, rfl, ⟨_, hA⟩, fun D hD => lc_l (bs := x ++ [q]) (fun v z => v = V.int z) (fun _ y z => y = V.int z) (fun z => some (z.fdiv (((Lo.gz (x ++ [q]) 0 : Nat) : Int)))) hD (by rw [List.length_append, sizeLine_eq]; show x.length + 1 ≤ _; omega) hA (paired_map_int _) (relK V.int) ?_ ?_⟩
        · rintro v z H2 Ky Kn _ rfl s2 _ k1 k2
          refine ⟨rfl, yes_k ?_⟩
          exact ⟨_, rfl, _, rfl, _, _, rfl, rfl, ⟨by omega, by omega⟩, k1 _ _ _ rfl (Same.refl _) rfl⟩
        · intro H2 ys s2 hD2 hp
          have e := paired_eq hp
          rw [fm_some] at e
          refine K1 H2 D s2 hD ?_
          show H2 D = _
          rw [hD2, e, ← Lo.lowest_row hq, if_neg hq0]
theorem sc_choices : FnScope ["rows", "many", "found", "row", "part"] ["rows", "many"] (defScope s_choices) := ⟨rfl, rfl, rfl, by decide +kernel, rfl, by decide +kernel, by decide +kernel⟩
theorem ok_choices {f : Addr} {fd : FuncData} (hlen : mg "len" = none) (F : Fun K "choices" "choices" s_choices f fd) : FnOk P w K mg base CX0 1 f fd ["rows", "many"] (spChoices K) := by
  refine F.ok sc_choices (fun vs H Q E h => ?_) (fun cdv A0 outer s0 H vs Q E hr h => ?_)
  · obtain ⟨l, many, n, A, rfl, _⟩ := h
    rfl
  · obtain ⟨l, many, n, A, rfl, ⟨as, hL0, hP0⟩, hA, hm, K1⟩ := h
    refine ⟨_, pss_cons (ps_set (i := 2) sc_choices.nd rfl (Or.inl rfl) (pe_lst (pa_cons (pe_lst pa_nil) pa_nil)))
      (pss_cons (ps_for PassesOwn.never rfl (pi_list (pv 0)) (pg_name (i := 3) sc_choices.nd rfl (Or.inr rfl))
        (pss_one (ps_set (i := 2) sc_choices.nd rfl (Or.inl rfl) (pe_op op_cat (pv 2) (pe_lc rfl sc_choices.nd (pi_list (pv 2)) (own := [("part", 4)]) (blkOk_by (by show blkC ["rows", "many", "found", "row", "part"] (defScope s_choices) _ _ = true; decide +kernel))
          (fun s H C cl fp => pg_name (i := 4) sc_choices.nd rfl (Or.inl rfl)) (fun s H C cl fp => pts_one (pt_cmpR op_lt (pe_callB (r := rLenK K) call_lenK (by rfl) hlen PySem.boot_len (pa_cons (pv 4) pa_nil)) (pv 1) (nomark _))) (fun s H C cl fp => pe_op op_cat (pv 4) (pe_lst (pa_cons (pv 3) pa_nil))))))))
      (pss_one (ps_ret (pe_lc rfl sc_choices.nd (pi_list (pv 2)) (own := [("part", 4)]) (blkOk_by (by show blkC ["rows", "many", "found", "row", "part"] (defScope s_choices) _ _ = true; decide +kernel))
          (fun s H C cl fp => pg_name (i := 4) sc_choices.nd rfl (Or.inl rfl)) (fun s H C cl fp => pts_one (pt_cmpR op_eq (pe_callB (r := rLenK K) call_lenK (by rfl) hlen PySem.boot_len (pa_cons (pv 4) pa_nil)) (pv 1) (nomark _))) (fun s H C cl fp => pv 4))))), ?_⟩
    refine ⟨Nat.zero_le _, fun p0 hp0 => ⟨(by show 1 ≤ sizeLine; decide), fun p1 hp1 => ?_⟩⟩
    have t0 := same_new (o := .lst []) hp0
    have t1 := same_new (o := .lst [V.ref p0]) hp1
    have t01 := t0.trans t1
    refine ⟨_, rfl, l, rfl, ⟨_, SqL.of (t01 _ _ hL0)⟩, for_list (K := K) (a := l) (xs := as.map V.ref) (fun i σ H' => ∃ (p : Addr) (v3 : Option V), σ = [some (.ref l), some (.int many), some (.ref p), v3, none] ∧ Same H H' ∧ Ch H H' p ((A.take i).foldl (Dt.grow many) [[]]))
      ⟨p1, none, rfl, t01, [p0], upd_same, .cons ⟨[], t1 _ _ upd_same, .nil⟩ .nil⟩ (fun i σ H' _ ⟨_, _, _, s5, _⟩ => SqL.of (s5 _ _ hL0)) ?_ ?_⟩
    · rintro i y σ H' hi ⟨p, v3, rfl, s5, qs, hp, hPq⟩
      obtain ⟨r, hri, a, rfl, ha⟩ := paired_get (rows_itemsT hP0) hi
      have hg := grown_small (many := many) (i := i) hA
      refine ⟨_, rfl, _, rfl, p, rfl, ⟨_, SqL.of hp⟩, fun D hD => ?_⟩
      refine lc_l (bs := (A.take i).foldl (Dt.grow many) [[]]) (fun v C => ∃ q, v = V.ref q ∧ ∃ rs, H' q = some (.lst (List.map V.ref rs)) ∧ Paired (fun a r => LI H a (Sf64.flat r)) rs C) (fun H2 v C => ∃ q rs, v = V.ref q ∧ q ≠ D ∧ H2 q = some (.lst (List.map V.ref rs)) ∧ Paired (fun a r => LI H a (Sf64.flat r)) rs C)
        (fun C => if (decide (C.length < many)) = true then some (C ++ [r]) else none) hD (by rw [sizeLine_eq]; omega) (SqL.of hp) ?_ (fun H1 H2 y b s1 ⟨q, rs, e, ne, h1, h2⟩ => ⟨q, rs, e, ne, s1 _ _ ne h1, h2⟩) ?_ ?_
      · exact paired_vref hPq
      · rintro v C H2 Ky Kn hC ⟨q, rfl, rs, hq, hrs⟩ s2 ⟨acc, hacc⟩ k1 k2
        have hq2 := s2 _ _ hq
        have el := paired_len hrs
        refine ⟨rfl, ?_⟩
        refine ⟨_, rfl, q, _, rfl, .inl (SqL.of hq2), _, rfl, _, _, rfl, rfl, _, rfl, ?_⟩
        have e : decide (((rs.map V.ref).length : Int) < (many : Int)) = decide (C.length < many) := decide_eq_decide.mpr (by rw [List.length_map, el]; omega)
        rw [e]
        refine ite2 (fun c => ?_) fun c => ?_
        · have hlt := of_decide_eq_true c
          refine ⟨_, rfl, _, rfl, (by show 1 ≤ sizeLine; decide), fun p2 hp2 => ?_⟩
          have t2 := same_new (o := .lst [V.ref a]) hp2
          refine ⟨q, p2, _, _, rfl, rfl, t2 _ _ hq2, upd_same, ?_, fun p3 hp3 => ?_⟩
          · rw [List.length_map, el, sizeLine_eq]
            show C.length + 1 ≤ _
            omega
          · refine k1 _ _ _ (if_pos c) (t2.trans (same_new hp3)) ⟨p3, rs ++ [a], rfl, ne_new (t2 _ _ hacc) hp3, ?_, paired_snoc (F := fun a r => LI H a (Sf64.flat r)) ha hrs⟩
            rw [upd_same, List.map_append]
            rfl
        · exact k2 _ (if_neg c) (Same.refl _)
      · intro H2 ys2 s2 hD2 hp2
        rw [fm_filter_map] at hp2
        obtain ⟨as2, rfl, hq2⟩ := paired_refsX (G := fun q C => ∃ rs, q ≠ D ∧ H2 q = some (.lst (List.map V.ref rs)) ∧ Paired (fun a r => LI H a (Sf64.flat r)) rs C) (fun v C ⟨q, rs, e, h1, h2, h3⟩ => ⟨q, e, rs, h1, h2, h3⟩) hp2
        have el2 := paired_len hq2
        have elq := paired_len hPq
        refine ⟨p, D, _, _, rfl, rfl, s2 _ _ hp, hD2, ?_, fun p5 hp5 => ?_⟩
        · rw [List.length_map, List.length_map, el2, elq, List.length_map, sizeLine_eq]
          have := List.length_filter_le (fun (C : List Sf64.Row) => decide (C.length < many)) ((A.take i).foldl (Dt.grow many) [[]])
          omega
        · have t5 := same_new (o := .lst (qs.map V.ref ++ as2.map V.ref)) hp5
          refine ⟨p5, _, rfl, (s5.trans s2).trans t5, qs ++ as2, by rw [upd_same, List.map_append], ?_⟩
          rw [grow_take hri]
          unfold Dt.grow
          refine paired_app (paired_mono hPq fun q C ⟨rs, h1, h2⟩ => ⟨rs, t5 _ _ (s2 _ _ h1), h2⟩) (paired_mono hq2 fun q C ⟨rs, _, h1, h2⟩ => ⟨rs, t5 _ _ h1, h2⟩)
    · rintro σ H' ⟨p, v3, rfl, s5, qs, hp, hPq⟩
      have el : (as.map V.ref).length = A.length := paired_len (rows_itemsT hP0)
      rw [el, List.take_length] at hPq
      have hg := grown_small (many := many) (i := A.length) hA
      rw [List.take_length] at hg
      refine ⟨_, rfl, p, rfl, ⟨_, SqL.of hp⟩, fun D hD => ?_⟩
      refine lc_l (bs := A.foldl (Dt.grow many) [[]]) (fun v C => ∃ q, v = V.ref q ∧ ∃ rs, H' q = some (.lst (List.map V.ref rs)) ∧ Paired (fun a r => LI H a (Sf64.flat r)) rs C) (fun H2 v C => ∃ q rs, v = V.ref q ∧ q ≠ D ∧ H2 q = some (.lst (List.map V.ref rs)) ∧ Paired (fun a r => LI H a (Sf64.flat r)) rs C)
        (fun C => if (decide (C.length = many)) = true then some C else none) hD (by rw [sizeLine_eq]; omega) (SqL.of hp) ?_ (fun H1 H2 y b s1 ⟨q, rs, e, ne, h1, h2⟩ => ⟨q, rs, e, ne, s1 _ _ ne h1, h2⟩) ?_ ?_
      · exact paired_vref hPq
      · rintro v C H2 Ky Kn hC ⟨q, rfl, rs, hq, hrs⟩ s2 ⟨acc, hacc⟩ k1 k2
        have hq2 := s2 _ _ hq
        have el := paired_len hrs
        refine ⟨rfl, ?_⟩
        refine ⟨_, rfl, q, _, rfl, .inl (SqL.of hq2), _, rfl, rfl, _, rfl, ?_⟩
        have e : decide (V.int ((rs.map V.ref).length : Int) = V.int (many : Int)) = decide (C.length = many) := by
          rw [dec_int, Bool.eq_iff_iff, beq_iff_eq, decide_eq_true_eq, List.length_map, el]
          omega
        rw [e]
        refine ite2 (fun c => ?_) fun c => ?_
        · exact ⟨_, rfl, k1 _ _ _ (if_pos c) (Same.refl _) ⟨q, rs, rfl, fun z => ne_new hq2 (by rw [← z] at hD; exact absurd hq (by rw [hD]; simp)) rfl, hq2, hrs⟩⟩
        · exact k2 _ (if_neg c) (Same.refl _)
      · intro H2 ys2 s2 hD2 hp2
        rw [fm_filter] at hp2
        obtain ⟨as2, rfl, hq2⟩ := paired_refsX (G := fun q C => ∃ rs, H2 q = some (.lst (List.map V.ref rs)) ∧ Paired (fun a r => LI H a (Sf64.flat r)) rs C) (fun v C ⟨q, rs, e, h1, h2, h3⟩ => ⟨q, e, rs, h2, h3⟩) hp2
        exact K1 H2 D (s5.trans s2) (none_back s5 hD) ⟨as2, hD2, hq2⟩
theorem sc_det : FnScope ["square", "total", "at", "others", "part", "row"] ["square"] (defScope s_determinant) := ⟨rfl, rfl, rfl, by decide +kernel, rfl, by decide +kernel, by decide +kernel⟩
theorem ok_det {f : Addr} {fd : FuncData} (hlen : mg "len" = none) (hran : mg "range" = none) (mF : mg "determinant" = some (.ref f)) (bF : Binds K fd ["square"] []) (F : Fun K "determinant" "determinant" s_determinant f fd) : ∀ n : Nat, n ≤ 3 → FnOk P w K mg base CX0 (n + 1) f fd ["square"] (spDet n)
  | 0, _ => by
    refine F.ok sc_det (fun vs H Q E h => ?_) (fun cdv A0 outer s0 H vs Q E hr h => ?_)
    · obtain ⟨l, sq, rfl, _⟩ := h
      rfl
    · obtain ⟨l, sq, rfl, ⟨as, hL, hP⟩, hl, hn, hb, K1⟩ := h
      refine ⟨_, pss_cons (ps_if (pt_cmpR op_eq (pe_callB call_len_seq (by rfl) hlen PySem.boot_len (pa_cons (pv 0) pa_nil)) pe_int (nomark _)) (pss_one (ps_ret pe_int)) pss_nil) (pss_cons ps_never (pss_cons ps_never (pss_one ps_never))), ?_⟩
      refine ⟨_, rfl, l, _, rfl, .inl (SqL.of hL), rfl, _, rfl, ?_⟩
      have el := paired_len hP
      have e : decide (V.int ((as.map V.ref).length : Int) = V.int 0) = true := by
        rw [dec_int, beq_iff_eq, List.length_map, el, hl]
        rfl
      rw [e]
      exact iteT (K1 H (Same.refl _))
  | n + 1, hn3 => by
    have G := ok_det hlen hran mF bF F n (by omega)
    refine F.ok sc_det (fun vs H Q E h => ?_) (fun cdv A0 outer s0 H vs Q E hr h => ?_)
    · obtain ⟨l, sq, rfl, _⟩ := h
      rfl
    · obtain ⟨l, sq, rfl, ⟨as, hL, hP⟩, hl, hn, hb, K1⟩ := h
      refine ⟨_, pss_cons (ps_if (pt_cmpR op_eq (pe_callB call_len_seq (by rfl) hlen PySem.boot_len (pa_cons (pv 0) pa_nil)) pe_int (nomark _)) (pss_one (ps_ret pe_int)) pss_nil)
        (pss_cons (ps_set (i := 1) sc_det.nd rfl (Or.inl rfl) pe_int)
        (pss_cons (ps_for PassesOwn.never rfl (pi_range1 (by rfl) hran (pa_cons (pe_callB call_len_seq (by rfl) hlen PySem.boot_len (pa_cons (pv 0) pa_nil)) pa_nil)) (pg_name (i := 2) sc_det.nd rfl (Or.inl rfl))
          (pss_cons (ps_setLc rfl sc_det.nd (i := 3) rfl rfl (sw_true rfl rfl rfl rfl) (pi_list (pe_op op_cat (pe_slice (r := rSlL K) sl_list (pv 0) po_none (po_some (pv 2))) (pe_slice (r := rSlL K) sl_list (pv 0) (po_some (pe_op op_add (pv 2) pe_int)) po_none))) (own := [("row", 5)]) (blkOk_by (by show blkC ["square", "total", "at", "others", "part", "row"] (defScope s_determinant) _ _ = true; decide +kernel))
            (fun s H C cl fp => pg_name (i := 5) sc_det.nd rfl (Or.inl rfl)) (fun s H C cl fp => pts_nil) (fun s H C cl fp => pe_slice (r := rSlL K) sl_list (pv 5) (po_some pe_int) po_none))
          (pss_cons (ps_set (i := 4) sc_det.nd rfl (Or.inl rfl) (pe_op op_mul (pe_ix (r := rIxL K) ix_list (pe_ix (r := rIxL K) ix_list (pv 0) (pv 2) (fun _ _ => rfl)) pe_int (fun _ _ => rfl)) (pe_call G hr rfl mF F.kp bF .nil pass0 (pa_cons (pv 3) pa_nil))))
          (pss_one (ps_aug (i := 1) sc_det.nd rfl (Or.inl rfl) (pe_ifExp (pt_cmpR op_eq (pe_op op_mod (pv 2) pe_int) pe_int (nomark _)) (pv 4) (pe_un un_neg (pv 4))) iop_add)))))
        (pss_one (ps_ret (pv 1))))), ?_⟩
      have el := paired_len hP
      refine ⟨_, rfl, l, _, rfl, .inl (SqL.of hL), rfl, _, rfl, ?_⟩
      have e : decide (V.int ((as.map V.ref).length : Int) = V.int 0) = false := by
        rw [dec_int, List.length_map, el, hl]
        simp
        omega
      rw [e]
      refine iteF ?_
      refine ⟨_, rfl, l, _, rfl, .inl (SqL.of hL), ((n + 1 : Nat) : Int), by rw [List.length_map, el, hl], by omega, by omega, for_range (n := n + 1) (fun i σ H' => ∃ v2 v3 v4 : Option V, σ = [some (.ref l), some (.int ((List.range i).map (dterm n sq)).sum), v2, v3, v4, none] ∧ Same H H') ⟨none, none, none, rfl, Same.refl H⟩ ?_ ?_⟩
      · rintro i σ H' hi ⟨v2, v3, v4, rfl, s1⟩
        have hi : i < n + 1 := hi
        have e0 : (0 : Int) + (i : Int) = (i : Int) := Int.zero_add _
        refine ⟨_, rfl, _, rfl, _, rfl, l, _, rfl, SqL.of (s1 _ _ hL), fun p1 hp1 => ?_⟩
        have t1 := same_new (o := .lst (cutV (as.map V.ref) none (some (0 + (i : Int))))) hp1
        refine ⟨_, rfl, _, rfl, _, _, rfl, rfl, _, rfl, l, _, rfl, SqL.of (t1 _ _ (s1 _ _ hL)), fun p2 hp2 => ?_⟩
        have t2 := same_new (o := .lst (cutV (as.map V.ref) (some (0 + (i : Int) + 1)) none)) hp2
        have c1 : cutV (as.map V.ref) none (some (0 + (i : Int))) = (as.take i).map V.ref := by rw [e0, cutV_take, List.map_take]
        have c2 : cutV (as.map V.ref) (some (0 + (i : Int) + 1)) none = (as.drop (i + 1)).map V.ref := by rw [e0, show ((i : Int) + 1) = ((i + 1 : Nat) : Int) by push_cast; rfl, cutV_drop, List.map_drop]
        have hPe : Paired (fun a r => LI H a r) (as.take i ++ as.drop (i + 1)) (sq.eraseIdx i) := by
          rw [List.eraseIdx_eq_take_drop_succ]
          exact paired_app (paired_take i hP) (paired_drop (i + 1) hP)
        refine ⟨p1, p2, _, _, rfl, rfl, t2 _ _ upd_same, upd_same, ?_, fun p3 hp3 => ⟨p3, rfl, ⟨_, SqL.of upd_same⟩, fun D hD => ?_⟩⟩
        · rw [c1, c2, List.length_map, List.length_map, List.length_take, List.length_drop, sizeLine_eq]
          omega
        have t3 := same_new (o := .lst (cutV (as.map V.ref) none (some (0 + (i : Int))) ++ cutV (as.map V.ref) (some (0 + (i : Int) + 1)) none)) hp3
        have s13 := ((s1.trans t1).trans t2).trans t3
        have hle : (sq.eraseIdx i).length = n := by rw [List.length_eraseIdx_of_lt (by omega)]; omega
        refine lc_l (K := K) (a := p3) (xs := (as.take i ++ as.drop (i + 1)).map V.ref) (bs := sq.eraseIdx i) (fun v r => ∃ a, v = V.ref a ∧ LI H a r) (fun H' y r => ∃ p, y = V.ref p ∧ p ≠ D ∧ LI H' p r) (fun r => some (List.tail r)) hD (by rw [hle, sizeLine_eq]; omega) (SqL.of (by rw [upd_same, c1, c2, List.map_append])) (rows_itemsG hPe) (fun H1 H2 y b s1 ⟨p, e, ne, h1⟩ => ⟨p, e, ne, s1 _ _ ne h1⟩) ?_ ?_
        · rintro v r H2 Ky Kn hr' ⟨a, rfl, ha⟩ s2 ⟨acc, hacc⟩ k1 k2
          refine ⟨rfl, yes_k ?_⟩
          refine ⟨_, rfl, _, rfl, a, _, rfl, SqL.of (s2 _ _ (s13 _ _ ha)), fun p hp => k1 _ _ _ rfl (same_new hp) ⟨p, rfl, ne_new hacc hp, ?_⟩⟩
          show upd _ _ _ _ = _
          rw [upd_same, show cutV (r.map V.int) (some 1) none = (List.tail r).map V.int by
            show cutV (r.map V.int) (some ((1 : Nat) : Int)) none = _
            rw [cutV_drop, ← List.map_drop, List.drop_one]]
        · intro H4 ys4 s4 hD4 hp4
          rw [fm_some] at hp4
          obtain ⟨as4, rfl, hq4⟩ := paired_refsX (G := fun a r => LI H4 a r) (fun v r ⟨p, e, _, h⟩ => ⟨p, e, h⟩) hp4
          have s14 := s13.trans s4
          have hir : i < sq.length := by omega
          obtain ⟨r, hri, ai, hai, hLi⟩ : ∃ r, sq[i]? = some r ∧ ∃ ai, (as.map V.ref)[i]? = some (V.ref ai) ∧ LI H ai r := by
            have hia : i < as.length := by omega
            obtain ⟨r, h1, h2⟩ := paired_get hP (List.getElem?_eq_getElem hia)
            exact ⟨r, h1, as[i], by rw [List.getElem?_map, List.getElem?_eq_getElem hia]; rfl, h2⟩
          have hrm : r ∈ sq := List.mem_of_getElem? hri
          have erD : sq.getD i [] = r := by rw [List.getD_eq_getElem?_getD, hri]; rfl
          have g0 : (r.map V.int)[0]? = some (V.int (r.getD 0 0)) := getD_map V.int (by rw [hn r hrm]; omega)
          have hb0 := getD_bd (hb r hrm) 0
          refine ⟨_, rfl, _, rfl, l, _, _, _, rfl, rfl, SqL.of (s14 _ _ hL), at_of (j := i) e0 hai, ai, _, _, _, rfl, rfl, SqL.of (s14 _ _ hLi), at_of (j := 0) rfl g0, _, rfl, D, (sq.eraseIdx i).map List.tail, rfl, ⟨as4, hD4, hq4⟩, by rw [List.length_map]; exact hle, fun q hq => ?_, fun q hq z hz => ?_, fun H5 s5 => ?_⟩
          · obtain ⟨t, ht, rfl⟩ := mem_erase_tail hq
            rw [List.length_tail, hn t ht]
            omega
          · obtain ⟨t, ht, rfl⟩ := mem_erase_tail hq
            exact hb t ht z (List.mem_of_mem_tail hz)
          refine ⟨_, _, rfl, rfl, .inl ⟨by omega, by omega⟩, _, rfl, _, rfl, _, _, rfl, rfl, (by show (0 : Int) < 2; decide), rfl, _, rfl, ?_⟩
          have em : decide (V.int ((0 + (i : Int)) % 2) = V.int 0) = decide (i % 2 = 0) := by
            rw [dec_int, Bool.eq_iff_iff, beq_iff_eq, decide_eq_true_eq]
            omega
          rw [em]
          have hsn := range_sum_snoc (dterm n sq) i
          refine ite2 (fun c => ?_) fun c => ?_
          · refine ⟨_, rfl, _, _, rfl, rfl, some (V.int (0 + (i : Int))), some (V.ref D), some (V.int (r.getD 0 0 * Dt.detC n ((sq.eraseIdx i).map List.tail))), ?_, s14.trans s5⟩
            have ed : dterm n sq i = r.getD 0 0 * Dt.detC n ((sq.eraseIdx i).map List.tail) := by
              unfold dterm
              rw [if_pos (of_decide_eq_true c), erD]
            rw [hsn, ed]
            rfl
          · refine ⟨_, rfl, _, rfl, _, _, rfl, rfl, some (V.int (0 + (i : Int))), some (V.ref D), some (V.int (r.getD 0 0 * Dt.detC n ((sq.eraseIdx i).map List.tail))), ?_, s14.trans s5⟩
            have ed : dterm n sq i = -(r.getD 0 0 * Dt.detC n ((sq.eraseIdx i).map List.tail)) := by
              unfold dterm
              rw [if_neg fun z => c (decide_eq_true z), erD]
            rw [hsn, ed]
            rfl
      · rintro σ H' ⟨v2, v3, v4, rfl, s1⟩
        have q := K1 H' s1
        rw [detC_sum, hl] at q
        exact ⟨_, rfl, q⟩
theorem sc_withb : FnScope ["k", "side"] ["k", "side"] (defScope s_with_b_for) := ⟨rfl, rfl, rfl, by decide +kernel, rfl, by decide +kernel, by decide +kernel⟩
theorem ok_withb {f : Addr} {fd : FuncData} (F : Fun K "with_b_for" "with_b_for" s_with_b_for f fd) : FnOk P w K mg base CX0 1 f fd ["k", "side"] spWithB := by
  refine F.ok sc_withb (fun vs H Q E h => ?_) (fun cdv A0 outer s0 H vs Q E hr h => ?_)
  · obtain ⟨a, k, n, r, rfl, _⟩ := h
    rfl
  · obtain ⟨a, k, n, r, rfl, ha, hn, hk, hn1, K1⟩ := h
    refine ⟨_, pss_one (ps_ret (pe_op op_cat (pe_op op_cat (pe_slice (r := rSlL K) sl_list (pv 1) po_none (po_some (pv 0))) (pe_slice (r := rSlL K) sl_list (pv 1) (po_some (pe_un un_neg pe_int)) po_none))
      (pe_slice (r := rSlL K) sl_list (pv 1) (po_some (pe_op op_add (pv 0) pe_int)) (po_some (pe_un un_neg pe_int))))), ?_⟩
    have ef : (Sf64.flat r).map V.int = r.a.map V.int ++ [V.int r.b] := by unfold Sf64.flat; rw [List.map_append]; rfl
    have e1 : cutV ((Sf64.flat r).map V.int) none (some (k : Int)) = (r.a.take k).map V.int := by
      rw [cutV_take, ef, List.take_append_of_le_length (by rw [List.length_map]; omega), List.map_take]
    have e2 : cutV ((Sf64.flat r).map V.int) (some (-1)) none = [V.int r.b] := by rw [ef, cutV_last]
    have e3 : cutV ((Sf64.flat r).map V.int) (some ((k : Int) + 1)) (some (-1)) = (r.a.drop (k + 1)).map V.int := by
      rw [ef, show ((k : Int) + 1) = ((k + 1 : Nat) : Int) by push_cast; rfl, cutV_mid (by rw [List.length_map]; omega), List.map_drop]
    refine ⟨_, rfl, _, rfl, _, rfl, a, _, rfl, SqL.of ha, fun p1 hp1 => ?_⟩
    have t1 := same_new (o := .lst (cutV ((Sf64.flat r).map V.int) none (some (k : Int)))) hp1
    refine ⟨_, rfl, _, rfl, _, rfl, a, _, rfl, SqL.of (t1 _ _ ha), fun p2 hp2 => ?_⟩
    have t2 := same_new (o := .lst (cutV ((Sf64.flat r).map V.int) (some (-1)) none)) hp2
    refine ⟨p1, p2, _, _, rfl, rfl, t2 _ _ upd_same, upd_same, ?_, fun p3 hp3 => ?_⟩
    · rw [e1, e2, List.length_map, List.length_take, sizeLine_eq]
      show _ + 1 ≤ _
      omega
    have t3 := same_new (o := .lst (cutV ((Sf64.flat r).map V.int) none (some (k : Int)) ++ cutV ((Sf64.flat r).map V.int) (some (-1)) none)) hp3
    refine ⟨_, rfl, _, rfl, _, _, rfl, rfl, _, rfl, _, rfl, _, rfl, a, _, rfl, SqL.of (t3 _ _ (t2 _ _ (t1 _ _ ha))), fun p4 hp4 => ?_⟩
    have t4 := same_new (o := .lst (cutV ((Sf64.flat r).map V.int) (some ((k : Int) + 1)) (some (-1)))) hp4
    refine ⟨p3, p4, _, _, rfl, rfl, t4 _ _ upd_same, upd_same, ?_, fun p5 hp5 => ?_⟩
    · rw [e1, e2, e3, List.length_append, List.length_map, List.length_map, List.length_take, List.length_drop, sizeLine_eq]
      show _ + 1 + _ ≤ _
      omega
    · have t5 := same_new (o := .lst (cutV ((Sf64.flat r).map V.int) none (some (k : Int)) ++ cutV ((Sf64.flat r).map V.int) (some (-1)) none ++ cutV ((Sf64.flat r).map V.int) (some ((k : Int) + 1)) (some (-1)))) hp5
      have t14 := ((t1.trans t2).trans t3).trans t4
      refine K1 _ p5 (t14.trans t5) ?_ ?_
      · cases e : H p5 with
        | none => rfl
        | some o =>
          have := t14 _ _ e
          rw [hp5] at this
          cases this
      · show upd _ _ _ _ = _
        rw [upd_same, e1, e2, e3, List.set_eq_take_append_cons_drop, if_pos (by omega)]
        simp
theorem sc_cross : FnScope ["d", "sides", "divisor", "point", "side", "k"] ["d", "sides"] (defScope s_crossing) := ⟨rfl, rfl, rfl, by decide +kernel, rfl, by decide +kernel, by decide +kernel⟩
theorem ok_cross {f fD fB fL : Addr} {fd dD dB dL : FuncData} (hran : mg "range" = none) (GD : ∀ n, n ≤ 3 → FnOk P w K mg base CX0 (n + 1) fD dD ["square"] (spDet n)) (GB : FnOk P w K mg base CX0 1 fB dB ["k", "side"] spWithB) (GL : FnOk P w K mg base CX0 2 fL dL ["row"] (spLowest K))
    (mD : mg "determinant" = some (.ref fD)) (mB : mg "with_b_for" = some (.ref fB)) (mL : mg "in_lowest_terms" = some (.ref fL)) (kD : PySem.W.keepIn K (.ref fD) = true) (kB : PySem.W.keepIn K (.ref fB) = true) (kL : PySem.W.keepIn K (.ref fL) = true)
    (bD : Binds K dD ["square"] []) (bB : Binds K dB ["k", "side"] []) (bL : Binds K dL ["row"] []) (F : Fun K "crossing" "crossing" s_crossing f fd) : FnOk P w K mg base CX0 5 f fd ["d", "sides"] (spCross K) := by
  refine F.ok sc_cross (fun vs H Q E h => ?_) (fun cdv A0 outer s0 H vs Q E hr h => ?_)
  · obtain ⟨l, n, C, rfl, _⟩ := h
    rfl
  · obtain ⟨l, n, C, rfl, ⟨as, hL0, hP0⟩, hl, hn, hb, hn1, hn3, K1⟩ := h
    have G := (GD n hn3).mono (show n + 1 ≤ 4 by omega)
    have hr1 : Room 1 _ := hr.mono (by decide)
    have hr2 : Room 2 _ := hr.mono (by decide)
    refine ⟨_, pss_cons (ps_set (i := 2) sc_cross.nd rfl (Or.inl rfl) (pe_call G hr rfl mD kD bD .nil pass0 (pa_cons (pe_lc rfl sc_cross.nd (pi_list (pv 1)) (own := [("side", 4)]) (blkOk_by (by show blkC ["d", "sides", "divisor", "point", "side", "k"] (defScope s_crossing) _ _ = true; decide +kernel))
        (fun s H C cl fp => pg_name (i := 4) sc_cross.nd rfl (Or.inl rfl)) (fun s H C cl fp => pts_nil) (fun s H C cl fp => pe_slice (r := rSlL K) sl_list (pv 4) po_none (po_some (pv 0)))) pa_nil)))
      (pss_cons (ps_if (pt_cmpR op_eq (pv 2) pe_int (nomark _)) (pss_one (ps_ret pe_non)) pss_nil)
      (pss_cons (ps_setLc rfl sc_cross.nd (i := 3) rfl rfl (sw_true rfl rfl rfl rfl) (pi_range1 (by rfl) hran (pa_cons (pv 0) pa_nil)) (own := [("k", 5)]) (blkOk_by (by show blkC ["d", "sides", "divisor", "point", "side", "k"] (defScope s_crossing) _ _ = true; decide +kernel))
        (fun s H C cl fp => pg_name (i := 5) sc_cross.nd rfl (Or.inr rfl)) (fun s H C cl fp => pts_nil)
        (fun s H C cl fp => pe_call G hr rfl mD kD bD .nil pass0 (pa_cons (pe_lc rfl sc_cross.nd (pi_listK (K := K) rfl (pv 1)) (own := [("side", 4)]) (blkOk_by (by show blkC ["d", "sides", "divisor", "point", "side", "k"] (relS (compScope (nth (defBody s_crossing) 2)) (defScope s_crossing)) _ _ = true; decide +kernel))
          (fun s H C cl fp => pg_name (i := 4) sc_cross.nd rfl (Or.inl rfl)) (fun s H C cl fp => pts_nil) (fun s H C cl fp => pe_call GB hr1 rfl mB kB bB .nil pass0 (pa_cons (pv 5) (pa_cons (pv 4) pa_nil)))) pa_nil)))
      (pss_one (ps_ret (pe_call GL hr2 rfl mL kL bL .nil pass0 (pa_cons (pe_op op_cat (pv 3) (pe_lst (pa_cons (pv 2) pa_nil))) pa_nil)))))), ?_⟩
    have hL : SqL K H l (as.map V.ref) := SqL.of hL0
    have hdt : (Dt.detC n (C.map fun r => r.a)).natAbs ≤ 6000000000 := Nat.le_trans (detC_bd n (by rw [List.length_map]; exact hl) fun r hr' z hz => by
      obtain ⟨s, hs, rfl⟩ := List.mem_map.mp hr'
      exact hb s hs z (List.mem_append_left _ hz)) (Dn_top hn3)
    refine ⟨_, rfl, l, rfl, ⟨_, hL⟩, fun D hD => ?_⟩
    refine lc_l (bs := C) (fun v r => ∃ a, v = V.ref a ∧ LI H a (Sf64.flat r)) (fun H' y r => ∃ p, y = V.ref p ∧ p ≠ D ∧ LI H' p r) (fun r => some r.a) hD (by rw [sizeLine_eq]; omega) hL (rows_itemsT hP0) (fun H1 H2 y b s1 ⟨p, e, ne, h1⟩ => ⟨p, e, ne, s1 _ _ ne h1⟩) ?_ ?_
    · rintro v r H2 Ky Kn hr' ⟨a, rfl, ha⟩ s2 ⟨acc, hacc⟩ k1 k2
      refine ⟨rfl, yes_k ?_⟩
      refine ⟨_, rfl, _, rfl, _, rfl, a, _, rfl, SqL.of (s2 _ _ ha), fun p1 hp1 => k1 _ _ _ rfl (same_new hp1) ⟨p1, rfl, ne_new hacc hp1, ?_⟩⟩
      show upd _ _ _ _ = _
      rw [upd_same, cut_take, flat_take (hn r hr')]
    intro H1 ys1 s1 hD1 hp1
    rw [fm_some] at hp1
    obtain ⟨as1, rfl, hq1⟩ := paired_refsX (G := fun a r => LI H1 a r) (fun v r ⟨p, e, _, h⟩ => ⟨p, e, h⟩) hp1
    refine ⟨D, C.map fun r => r.a, rfl, ⟨as1, hD1, hq1⟩, by rw [List.length_map]; exact hl, fun r hr' => ?_, fun r hr' z hz => ?_, fun H2 s2 => ?_⟩
    · obtain ⟨s, hs, rfl⟩ := List.mem_map.mp hr'
      exact hn s hs
    · obtain ⟨s, hs, rfl⟩ := List.mem_map.mp hr'
      exact hb s hs z (List.mem_append_left _ hz)
    have s12 := s1.trans s2
    refine ⟨_, rfl, rfl, _, rfl, ?_⟩
    have ed : decide (V.int (Dt.detC n (C.map fun r => r.a)) = V.int 0) = decide (Dt.detC n (C.map fun r => r.a) = 0) := by rw [dec_int, Bool.beq_eq_decide_eq]
    rw [ed]
    refine ite2 (fun c => ?_) fun c => ?_
    · refine (K1 H2 s12).1 ?_
      unfold Dt.cross
      rw [if_pos (of_decide_eq_true c)]
    have hq0 : Dt.detC n (C.map fun r => r.a) ≠ 0 := fun z => c (decide_eq_true z)
    refine ⟨_, rfl, (n : Int), rfl, by omega, by omega, fun D3 hD3 => ?_⟩
    refine lc_r (β := Int) (fun _ y z => y = V.int z) (fun k => Dt.detC n (C.map fun r => r.a.set k r.b)) hD3 (by rw [sizeLine_eq]; omega) (relK V.int) ?_ ?_
    · rintro i H4 Ky Kn hi s4 _ k1
      have hi : i < n := hi
      have s14 := s12.trans s4
      refine ⟨rfl, yes_k ?_⟩
      refine ⟨_, rfl, l, rfl, ⟨_, SqL.of (s14 _ _ hL0)⟩, fun D5 hD5 => ?_⟩
      refine lc_l (K := K) (bs := C) (fun v r => ∃ a, v = V.ref a ∧ LI H a (Sf64.flat r)) (fun H' y r => ∃ p, y = V.ref p ∧ p ≠ D5 ∧ LI H' p r) (fun r => some (r.a.set i r.b)) hD5 (by rw [sizeLine_eq]; omega) (SqL.of (s14 _ _ hL0)) (rows_itemsT hP0) (fun H1 H2 y b s1 ⟨p, e, ne, h1⟩ => ⟨p, e, ne, s1 _ _ ne h1⟩) ?_ ?_
      · rintro v r H6 Ky6 Kn6 hr' ⟨a, rfl, ha⟩ s6 ⟨acc, hacc⟩ k6 k7
        refine ⟨rfl, yes_k ?_⟩
        refine ⟨_, rfl, _, rfl, a, i, n, r, ?_, s6 _ _ (s14 _ _ ha), hn r hr', hi, by omega, fun H7 p7 s7 hp7 h7 => k6 _ _ _ rfl s7 ⟨p7, rfl, ne_new hacc hp7, h7⟩⟩
        rw [Int.zero_add]
        rfl
      · intro H6 ys6 s6 hD6 hp6
        rw [fm_some] at hp6
        obtain ⟨as6, rfl, hq6⟩ := paired_refsX (G := fun a r => LI H6 a r) (fun v r ⟨p, e, _, h⟩ => ⟨p, e, h⟩) hp6
        refine ⟨D5, C.map fun r => r.a.set i r.b, rfl, ⟨as6, hD6, hq6⟩, by rw [List.length_map]; exact hl, fun r hr' => ?_, fun r hr' z hz => ?_, fun H7 s7 => k1 _ _ (s6.trans s7) rfl⟩
        · obtain ⟨s, hs, rfl⟩ := List.mem_map.mp hr'
          rw [List.length_set]
          exact hn s hs
        · obtain ⟨s, hs, rfl⟩ := List.mem_map.mp hr'
          rcases List.mem_or_eq_of_mem_set hz with q | q
          · exact hb s hs z (List.mem_append_left _ q)
          · exact hb s hs z (by rw [q]; exact List.mem_append_right _ (List.mem_singleton.mpr rfl))
    · intro H4 ys4 s4 hD4 hp4
      have e4 := paired_eq hp4
      subst e4
      have s14 := s12.trans s4
      refine ⟨_, rfl, _, rfl, (by show 1 ≤ sizeLine; decide), fun p5 hp5 => ?_⟩
      have t5 := same_new (o := .lst [V.int (Dt.detC n (C.map fun r => r.a))]) hp5
      refine ⟨D3, p5, _, _, rfl, rfl, t5 _ _ hD4, upd_same, ?_, fun p6 hp6 => ?_⟩
      · rw [List.length_map, List.length_map, List.length_range, sizeLine_eq]
        show (n : Int).toNat + 1 ≤ _
        omega
      have t6 := same_new (o := .lst ((((List.range (n : Int).toNat).map fun k => Dt.detC n (C.map fun r => r.a.set k r.b)).map V.int) ++ [V.int (Dt.detC n (C.map fun r => r.a))])) hp6
      refine ⟨p6, (List.range n).map fun k => Dt.detC n (C.map fun r => r.a.set k r.b), Dt.detC n (C.map fun r => r.a), rfl, SqL.of ?_, hq0, Nat.lt_of_le_of_lt hdt (by decide), by rw [List.length_map, List.length_range]; omega, fun H7 p7 s7 hp7 h7 => ?_⟩
      · rw [upd_same, List.map_append]
        rfl
      have s16 := (s14.trans t5).trans t6
      refine (K1 H7 (s16.trans s7)).2 p7 _ ?_ ?_ h7
      · unfold Dt.cross
        rw [if_neg hq0]
      · cases e : H p7 with
        | none => rfl
        | some o =>
          have := s16 _ _ e
          rw [hp7] at this
          cases this
theorem sc_cpoints : FnScope ["d", "sides", "found", "chosen", "point"] ["d", "sides"] (defScope s_corner_points) := ⟨rfl, rfl, rfl, by decide +kernel, rfl, by decide +kernel, by decide +kernel⟩
theorem ok_cpoints {f fC fX fM fO T : Addr} {fd dC dX dM dO : FuncData} (GC : FnOk P w K mg base CX0 1 fC dC ["rows", "many"] (spChoices K)) (GX : FnOk P w K mg base CX0 5 fX dX ["d", "sides"] (spCross K)) (GM : FnOk P w K mg base CX0 2 fM dM ["sides", "q", "x"] (spMeetsAll K)) (GO : FnOk P w K mg base CX0 5 fO dO ["d", "points"] (spOrder T K))
    (mC : mg "choices" = some (.ref fC)) (mX : mg "crossing" = some (.ref fX)) (mM : mg "meets_all" = some (.ref fM)) (mO : mg "in_order" = some (.ref fO)) (kC : PySem.W.keepIn K (.ref fC) = true) (kX : PySem.W.keepIn K (.ref fX) = true) (kM : PySem.W.keepIn K (.ref fM) = true) (kO : PySem.W.keepIn K (.ref fO) = true)
    (bC : Binds K dC ["rows", "many"] []) (bX : Binds K dX ["d", "sides"] []) (bM : Binds K dM ["sides", "q", "x"] []) (bO : Binds K dO ["d", "points"] []) (F : Fun K "corner_points" "corner_points" s_corner_points f fd) : FnOk P w K mg base CX0 6 f fd ["d", "sides"] (spPoints T K) := by
  refine F.ok sc_cpoints (fun vs H Q E h => ?_) (fun cdv A0 outer s0 H vs Q E hr h => ?_)
  · obtain ⟨l, n, A, rfl, _⟩ := h
    rfl
  · obtain ⟨l, n, A, rfl, hT, hR, Ft, hn1, hn3, K1⟩ := h
    have hr1 : Room 1 _ := hr.mono (by decide)
    have hr2 : Room 2 _ := hr.mono (by decide)
    have hu := (Room.in1 hr1).units0
    refine ⟨_, pss_cons (ps_set (i := 2) sc_cpoints.nd rfl (Or.inl rfl) (pe_lst pa_nil))
      (pss_cons (ps_for PassesOwn.never rfl (pi_list (pe_call GC hr1 rfl mC kC bC .nil pass0 (pa_cons (pv 1) (pa_cons (pv 0) pa_nil)))) (pg_name (i := 3) sc_cpoints.nd rfl (Or.inl rfl))
        (pss_cons (ps_set (i := 4) sc_cpoints.nd rfl (Or.inl rfl) (pe_call GX hr rfl mX kX bX .nil pass0 (pa_cons (pv 0) (pa_cons (pv 3) pa_nil))))
        (pss_one (ps_if (PW.pt (pw_and (pt_cmpR op_notN (pv 4) pe_non (nomark _)) (pw_and (pt_cmpR (op_notIn hu) (pv 4) (pv 2) (by with_unfolding_all rfl))
            (pw_and1 (pt_val (pe_call GM hr2 rfl mM kM bM .nil pass0 (pa_cons (pv 1) (pa_cons (pe_ix (r := rIxL K) ix_list (pv 4) (pv 0) (fun _ _ => rfl)) (pa_cons (pe_slice (r := rSlL K) sl_list (pv 4) po_none (po_some (pv 0))) pa_nil)))))))))
          (pss_one (ps_expr (pe_bm PySem.F.plainAttrs_list PySem.F.slot_list_append PySem.F.type_list_append mt_append (pv 2) (pa_cons (pv 4) pa_nil)))) pss_nil))))
      (pss_one (ps_ret (pe_call GO hr rfl mO kO bO .nil pass0 (pa_cons (pv 0) (pa_cons (pv 2) pa_nil)))))), ?_⟩
    refine ⟨Nat.zero_le _, fun D hD => ?_⟩
    have tD := same_new (o := .lst []) hD
    refine ⟨_, rfl, _, rfl, l, n, n, A, rfl, hR.same tD, Ft.few, hn3, fun H1 p1 s1 hpn hCh => ?_⟩
    have hpD : p1 ≠ D := fun z => by rw [z, upd_same] at hpn; cases hpn
    have hD1 : H1 D = some (.lst []) := s1 _ _ upd_same
    obtain ⟨qs, hp1, hPq⟩ := hCh
    have hfew := chosen_few (n := n) Ft.few hn3
    have few : ∀ i, (((Dt.chosen A n).take i).foldl (Dt.gather n A) []).length ≤ 63 := fun i => by
      have h1 := gather_len (n := n) (A := A) ((Dt.chosen A n).take i) []
      rw [List.length_take] at h1
      have : ([] : List Sf64.Pt).length = 0 := rfl
      omega
    have sub : ∀ C ∈ Dt.chosen A n, C.length = n ∧ ∀ r ∈ C, r ∈ A := fun C hC => by
      obtain ⟨h1, h2⟩ := Dt.mem_chosen.mp hC
      exact ⟨h2, fun r hr' => h1.subset hr'⟩
    have lows : ∀ i, ∀ p ∈ ((Dt.chosen A n).take i).foldl (Dt.gather n A) [], Co.Low n p := fun i => gather_all _ _ (fun p hp => by cases hp) fun C _ p e => cross_low e
    refine ⟨p1, rfl, ⟨_, SqL.of hp1⟩, for_list (K := K) (a := p1) (xs := qs.map V.ref) (fun i σ H' => ∃ v3 v4 : Option V, σ = [some (.int n), some (.ref l), some (.ref D), v3, v4] ∧ Same H H' ∧ (∀ b o, b ≠ D → H1 b = some o → H' b = some o) ∧
        RowsT H' D ((((Dt.chosen A n).take i).foldl (Dt.gather n A) []).map Sf64.told))
      ⟨none, none, rfl, tD.trans s1, fun _ _ _ e => e, ?_⟩ (fun i σ H' _ ⟨_, _, _, _, s5, _⟩ => SqL.of (s5 _ _ hpD hp1)) ?_ ?_⟩
    · rw [List.take_zero]
      exact ⟨[], s1 _ _ upd_same, .nil⟩
    · rintro i y σ H' hi ⟨v3, v4, rfl, sH, s5, hF⟩
      obtain ⟨C, hCi, q, rfl, rs, hq, hrs⟩ := paired_get (paired_vref hPq) hi
      have hCm : C ∈ Dt.chosen A n := List.mem_of_getElem? hCi
      obtain ⟨hCl, hCA⟩ := sub C hCm
      have hqD : q ≠ D := fun z => by
        rw [z, hD1] at hq
        injection hq with hq
        injection hq with hq
        have h1 := congrArg List.length hq
        rw [List.length_map, paired_len hrs, hCl] at h1
        have h1 : 0 = n := h1
        omega
      have hRC : RowsT H' q (C.map Sf64.flat) := ⟨rs, s5 _ _ hqD hq, paired_map (f := Sf64.flat) (paired_mono hrs fun a r ha => by
        have hne : a ≠ D := rows_ne (rs := []) (ns := r.a) (z := r.b) (H := upd H D (.lst [])) upd_same ha
        exact s5 _ _ hne (s1 _ _ ha))⟩
      have hL := lows i
      have hlen := few i
      have eg := gather_take (n := n) (A := A) hCi
      generalize hLd : ((Dt.chosen A n).take i).foldl (Dt.gather n A) [] = L at *
      obtain ⟨fs, hDf, hPf⟩ := id hF
      refine ⟨_, rfl, _, rfl, q, n, C, rfl, hRC, hCl, fun r hr' => Ft.len r (hCA r hr'), fun r hr' => Ft.bd r (hCA r hr'), hn1, hn3, fun H2 s2 => ⟨fun e => ?_, fun p pt e hp hpt => ?_⟩⟩
      · refine ⟨_, rfl, rfl, _, rfl, iteF ?_⟩
        refine ⟨_, _, rfl, sH.trans s2, fun b o hb ho => s2 _ _ (s5 b o hb ho), ?_⟩
        rw [eg, gather_none e]
        exact hF.same s2
      · have hlow := cross_low e
        have eg2 := gather_some (A := A) (L := L) e
        have stay : ∀ {H6 : Hp}, Same H2 H6 → ¬ (pt ∉ L ∧ Se02.meets A pt = true) → ∃ v3 v4 : Option V, [some (V.int n), some (V.ref l), some (V.ref D), some (V.ref q), some (V.ref p)] = [some (.int n), some (.ref l), some (.ref D), v3, v4] ∧ Same H H6 ∧ (∀ b o, b ≠ D → H1 b = some o → H6 b = some o) ∧ RowsT H6 D ((((Dt.chosen A n).take (i + 1)).foldl (Dt.gather n A) []).map Sf64.told) := fun {H6} s6 hno => by
          refine ⟨_, _, rfl, (sH.trans s2).trans s6, fun b o hb ho => s6 _ _ (s2 _ _ (s5 b o hb ho)), ?_⟩
          rw [eg, eg2, if_neg hno]
          exact hF.same (s2.trans s6)
        refine ⟨_, rfl, rfl, _, rfl, iteT ?_⟩
        refine ⟨_, rfl, _, rfl, p, D, Sf64.told pt, _, rfl, rfl, hpt, hF.same s2, _, rfl, ?_⟩
        have hni := notin_iff hL hlow
        refine ite2 (fun c => ?_) fun c => ?_
        · have hnot := hni.mp c
          refine ⟨_, rfl, _, rfl, _, rfl, p, _, _, _, rfl, rfl, SqL.of hpt, at_of (j := n) rfl (told_at hlow), _, rfl, _, rfl, _, rfl, p, _, rfl, SqL.of hpt, fun p5 hp5 => ?_⟩
          have t5 := same_new (o := .lst (cutV ((Sf64.told pt).map V.int) none (some (n : Int)))) hp5
          refine ⟨l, p5, (pt.q : Int), A, pt.x, rfl, ((hR.same (sH.trans s2)).same t5).rows, SqL.of (by rw [upd_same, cut_take, told_take hlow]), fun r hr' => by rw [Ft.len r hr', hlow.len], by rw [hlow.len]; omega, by have := Ft.few; omega, fun r hr' z hz => ?_, fun H6 s6 => ⟨_, rfl, ?_⟩⟩
          · have := Ft.bd r hr' z hz
            omega
          have em : (A.all fun r => decide (Sf64.dot r.a pt.x ≤ r.b * (pt.q : Int))) = Se02.meets A pt := rfl
          rw [em]
          have s26 := t5.trans s6
          refine ite2 (fun c6 => ?_) fun c6 => ?_
          · have hD6 := s26 _ _ (s2 _ _ hDf)
            refine ⟨_, rfl, .inl ⟨rfl, _, SqL.of hD6⟩, _, rfl, D, _, _, rfl, rfl, hD6, ?_, ?_⟩
            · rw [List.length_map, paired_len hPf, List.length_map, sizeLine_eq]
              omega
            · have hpD' : p ≠ D := fun z => by rw [z, hDf] at hp; cases hp
              refine ⟨_, _, rfl, same_upd hD ((sH.trans s2).trans s26), fun b o hb ho => by rw [upd_ne hb]; exact s26 _ _ (s2 _ _ (s5 b o hb ho)), ?_⟩
              rw [eg, eg2, if_pos ⟨hnot, c6⟩, List.map_append]
              refine ⟨fs ++ [p], by rw [upd_same, List.map_append]; rfl, paired_app (paired_map (f := Sf64.told) (paired_mono (paired_unmap hPf) fun a r ha => ?_)) (.cons ?_ .nil)⟩
              · have hne : a ≠ D := rows_ne (ns := r.x) (z := (r.q : Int)) hDf ha
                show upd _ _ _ _ = _
                rw [upd_ne hne]
                exact s26 _ _ (s2 _ _ ha)
              · show upd _ _ _ _ = _
                rw [upd_ne hpD']
                exact s26 _ _ hpt
          · exact stay s26 fun z => c6 z.2
        · exact stay (Same.refl _) fun z => c (hni.mpr z.1)
    · rintro σ H' ⟨v3, v4, rfl, sH, s5, hF⟩
      have elq : (qs.map V.ref).length = (Dt.chosen A n).length := by rw [List.length_map]; exact paired_len hPq
      rw [elq, List.take_length] at hF
      refine ⟨_, rfl, _, rfl, D, n, Dt.found n A, rfl, sH _ _ hT, hF, ?_, Dt.found_nodup n A, ?_, hn3, ?_, fun H2 p2 M hM hS hR2 => ?_⟩
      · have := lows (Dt.chosen A n).length
        rw [List.take_length] at this
        exact this
      · have := few (Dt.chosen A n).length
        rw [List.take_length] at this
        show (Dt.found n A).length < 64
        unfold Dt.found
        omega
      · exact gather_all (P := fun p => p.q ≤ 6000000000 ∧ BdN 6000000000 p.x) _ _ (fun p hp => by cases hp) fun C hC p e => cross_bd hn3 (sub C hC).1 (fun r hr' => Ft.bd r ((sub C hC).2 r hr')) e
      · have ec := Dt.corners_prog hn3 Ft.len hM hS
        refine K1 H2 p2 ?_ ?_
        · rw [ec]; exact hM
        · rw [ec]; exact hR2
theorem sc_order : FnScope ["d", "points", "shared", "each", "point", "number"] ["d", "points"] (defScope s_in_order) := ⟨rfl, rfl, rfl, by decide +kernel, rfl, by decide +kernel, by decide +kernel⟩
theorem ok_order {f c T : Addr} {oc kV doc pm cdv ct : Value} {od an : Option Addr} {osl : Array (Option Value)} (lk : K.lookup f = some ⟨oc, od, .func (PySem.W.fnOf "in_order" "in_order" (defArgs s_in_order) (defBody s_in_order) (defScope s_in_order) .none kV doc pm an cdv ct), osl⟩) (hcd : PySem.W.codeIn K cdv "in_order" = true)
    (hcode : cdv = .ref c) (C : PySem.W.CodeHd base c T) (B : Ky.BM mg base) (hsorted : mg "sorted" = none) : FnOk P w K mg base CX0 5 f (PySem.W.fnOf "in_order" "in_order" (defArgs s_in_order) (defBody s_in_order) (defScope s_in_order) .none kV doc pm an cdv ct) ["d", "points"] (spOrder T K) := by
  refine fn_of lk hcd sc_order (fun vs H Q E h => ?_) (fun A0 outer s0 H vs Q E hr h => ?_)
  · obtain ⟨l, n, L, rfl, _⟩ := h
    rfl
  · obtain ⟨l, n, L, rfl, hT, ⟨as, hL0, hP0⟩, hLow, hnd, h64, hn3, hbd, K1⟩ := h
    have main : ∃ t, PSs (cxOf CX0 P w K mg base ["d", "points", "shared", "each", "point", "number"] "in_order" (defScope s_in_order) f cdv A0 outer s0 H E).nox (defBody s_in_order) t ∧ t { nx := fun _ H' => Q .non H', rt := Q } (start ["d", "points", "shared", "each", "point", "number"] [.int n, .ref l]) H := by
      refine ⟨_, pss_cons (ps_set (i := 2) sc_order.nd rfl (Or.inr rfl) pe_int)
        (pss_cons (ps_for PassesOwn.never rfl (pi_list (pv 1)) (pg_name (i := 3) sc_order.nd rfl (Or.inl rfl)) (pss_one (ps_set (i := 2) sc_order.nd rfl (Or.inr rfl) (pe_op op_mul (pv 2) (pe_ix (r := rIxL K) ix_list (pv 3) (pv 0) (fun _ _ => rfl))))))
        (pss_one (ps_ret (Ky.pe_sortBy (K := K) (k := 2) (i := 4) (x := "point") (own := [("point", 4)]) rfl hr (by rfl) hsorted hcode C B (blkOk_by (by show blkC ["d", "points", "shared", "each", "point", "number"] (defScope s_in_order) _ _ = true; decide +kernel)) sc_order.nd rfl rfl rfl rfl rfl (fun _ _ _ _ _ _ => rfl) (pa_cons (pv 1) pa_nil)
          (fun s' H' qual g code => pe_lc rfl sc_order.nd (pi_listK (K := K) rfl (pe_slice (r := rSlL K) sl_list (pv 4) po_none (po_some (pv 0)))) (own := [("number", 5)]) (blkOk_by (by show blkC ["d", "points", "shared", "each", "point", "number"] (lamScope (nth (defBody s_in_order) 2)) _ _ = true; decide +kernel))
            (fun s H C cl fp => pg_name (i := 5) sc_order.nd rfl (Or.inl rfl)) (fun s H C cl fp => pts_nil) (fun s H C cl fp => pe_op op_mul (pv 5) (pe_op op_fdivB (pv 2) (pe_ix (r := rIxL K) ix_list (pv 4) (pv 0) (fun _ _ => rfl))))))))), ?_⟩
      have hPp := paired_unmap hP0
      have pos : ∀ p ∈ L, 0 < p.q := fun p hp => (hLow p hp).pos
      refine ⟨_, rfl, l, rfl, ⟨_, SqL.of hL0⟩, for_list (K := K) (a := l) (xs := as.map V.ref) (fun i σ H' => H' = H ∧ ∃ v3 : Option V, σ = [some (.int n), some (.ref l), some (.int (Dt.shared (L.take i))), v3, none, none])
        ⟨rfl, none, rfl⟩ (fun i σ H' _ ⟨e, _⟩ => by rw [e]; exact SqL.of hL0) ?_ ?_⟩
      · rintro i y σ H' hi ⟨rfl, v3, rfl⟩
        obtain ⟨p, hpi, a, rfl, ha⟩ := paired_get (paired_vref hPp) hi
        have hpm : p ∈ L := List.mem_of_getElem? hpi
        have hq := (hbd p hpm).1
        refine ⟨_, rfl, _, rfl, _, rfl, a, _, _, _, rfl, rfl, SqL.of ha, at_of (j := n) rfl (told_at (hLow p hpm)), _, _, rfl, rfl, .inr ⟨by omega, by omega⟩, rfl, some (V.ref a), ?_⟩
        rw [shared_take hpi]
        rfl
      · rintro σ H' ⟨rfl, v3, rfl⟩
        have ela : (as.map V.ref).length = L.length := by rw [List.length_map]; exact paired_len hPp
        rw [ela, List.take_length]
        have hne : ∀ {a : Addr} {ns : List Int}, LI H' a ns → a ≠ T := fun {a ns} ha z => by
          have ha : H' a = some (.lst (ns.map V.int)) := ha
          rw [z, hT] at ha
          cases ha
        refine ⟨_, rfl, l, as.map V.ref, L.map (Dt.key (Dt.shared L)), n, rfl, SqL.of hL0, hT, fun k hk => ?_, keys_nodup hLow hnd, by rw [List.length_map, ela], by rw [ela]; exact h64, fun j y k H2 hj hk s2 => ?_, fun pm' H2 D hS s2 hD => ?_⟩
        · obtain ⟨p, hp, rfl⟩ := List.mem_map.mp hk
          exact key_len (hLow p hp)
        · obtain ⟨p, hpi, a, rfl, ha⟩ := paired_get (paired_vref hPp) hj
          have hpm : p ∈ L := List.mem_of_getElem? hpi
          have hlow := hLow p hpm
          rw [List.getElem?_map, hpi] at hk
          cases hk
          have ha2 : LI H2 a (Sf64.told p) := s2 _ _ (hne ha) ha
          have hq0 := pos p hpm
          obtain ⟨hq, hx⟩ := hbd p hpm
          refine ⟨_, rfl, _, rfl, _, rfl, a, _, rfl, SqL.of ha2, fun p1 hp1 => ⟨p1, rfl, ⟨_, SqL.of upd_same⟩, fun D hD => ?_⟩⟩
          have t1 := same_new (o := .lst (cutV ((Sf64.told p).map V.int) none (some (n : Int)))) hp1
          refine lc_l (K := K) (a := p1) (xs := p.x.map V.int) (bs := p.x) (fun v z => v = V.int z) (fun _ y z => y = V.int z) (fun z => some (z * (Dt.shared L / (p.q : Int)))) hD (by rw [hlow.len, sizeLine_eq]; omega) (SqL.of (by rw [upd_same, cut_take, told_take hlow])) (paired_map_int _) (relK V.int) ?_ ?_
          · rintro v z H3 Ky3 Kn3 hz rfl s3 _ k1 k2
            have hzb := hx z hz
            refine ⟨rfl, yes_k ?_⟩
            refine ⟨_, rfl, _, rfl, _, rfl, _, rfl, a, _, _, _, rfl, rfl, SqL.of (s3 _ _ (t1 _ _ ha2)), at_of (j := n) rfl (told_at hlow), _, _, rfl, rfl, ⟨by omega, ?_⟩, _, _, rfl, rfl, .inl ⟨by omega, by omega⟩, ?_⟩
            · rw [Int.natAbs_natCast]
              exact Nat.lt_of_le_of_lt hq (by decide)
            · refine k1 _ _ _ rfl (Same.refl _) ?_
              show V.int (z * (Dt.shared L).fdiv (p.q : Int)) = _
              rw [Lo.fdiv_pos (by omega)]
          · intro H3 ys3 s3 hD3 hp3
            have e3 := paired_eq hp3
            rw [fm_some] at e3
            refine ⟨D, rfl, t1.trans s3, none_back t1 hD, ?_⟩
            show H3 D = _
            rw [hD3, e3]
            rfl
        · obtain ⟨g1, g2, g3⟩ := picked hLow hS
          have hP2 : Paired (fun a p => LI H2 a (Sf64.told p)) as L := paired_mono hPp fun a p ha => s2 _ _ (hne ha) ha
          obtain ⟨e1, e2⟩ := pick_rows hP2 g1
          rw [e1] at hD
          exact K1 H2 D _ g2 g3 ⟨_, hD, e2⟩
    obtain ⟨t, h1, h2⟩ := main
    exact ⟨t, h1.nox, h2⟩
theorem sc_corners : FnScope ["d", "sides"] ["d", "sides"] (defScope s_corners) := ⟨rfl, rfl, rfl, by decide +kernel, rfl, by decide +kernel, by decide +kernel⟩
theorem ok_corners {f fS fR fP fC fO T : Addr} {fd dS dR dP dC dO : FuncData} (GS : FnOk P w K mg base CX0 4 fS dS ["d", "sides"] (spSides K)) (GR : FnOk P w K mg base CX0 1 fR dR [] spRefusal) (GP : FnOk P w K mg base CX0 6 fP dP ["d", "sides"] (spPoints T K)) (GC : FnOk P w K mg base CX0 1 fC dC ["row", "size"] (spCut K)) (GO : FnOk P w K mg base CX0 2 fO dO ["rows"] spCounted)
    (mS : mg "fit_sides" = some (.ref fS)) (mR : mg "refusal" = some (.ref fR)) (mP : mg "corner_points" = some (.ref fP)) (mC : mg "cut" = some (.ref fC)) (mO : mg "counted" = some (.ref fO))
    (kS : PySem.W.keepIn K (.ref fS) = true) (kR : PySem.W.keepIn K (.ref fR) = true) (kP : PySem.W.keepIn K (.ref fP) = true) (kC : PySem.W.keepIn K (.ref fC) = true) (kO : PySem.W.keepIn K (.ref fO) = true)
    (bS : Binds K dS ["d", "sides"] []) (bR : Binds K dR [] []) (bP : Binds K dP ["d", "sides"] []) (bC : Binds K dC ["row", "size"] []) (bO : Binds K dO ["rows"] [])
    (F : Fun K "corners" "corners" s_corners f fd) : FnOk P w K mg base CX0 7 f fd ["d", "sides"] (spCorners T K) := by
  refine F.ok sc_corners (fun vs H Q E h => ?_) (fun cdv A0 outer s H vs Q E hr h => ?_)
  · obtain ⟨d, a, l, rfl, _⟩ := h
    rfl
  · obtain ⟨d, a, l, rfl, hT, hA, hl, k⟩ := h
    have hr1 : Room 1 _ := hr.mono (by decide)
    have hr2 : Room 2 _ := hr.mono (by decide)
    have hr3 : Room 4 _ := hr.mono (by decide)
    refine ⟨_, pss_cons (ps_if (pt_not (pt_val (pe_call GS hr3 rfl mS kS bS .nil pass0 (pa_cons (pv 0) (pa_cons (pv 1) pa_nil)))))
        (pss_one (ps_ret (pe_call0 GR hr1 rfl mR kR bR .nil pass0))) pss_nil)
      (pss_one (ps_ret (pe_call GO hr2 rfl mO kO bO .nil pass0 (pa_cons (pe_call GP hr rfl mP kP bP .nil pass0 (pa_cons (pv 0) (pa_cons (pe_call GC hr1 rfl mC kC bC .nil pass0 (pa_cons (pv 1) (pa_cons (pe_op op_add (pv 0) pe_int) pa_nil))) pa_nil))) pa_nil)))), ?_⟩
    refine ⟨_, rfl, _, rfl, d, a, l, rfl, hA, by omega, fun H1 s1 => ⟨_, rfl, ?_⟩⟩
    by_cases c1 : fitS d l = true
    · rw [c1]
      refine iteF ?_
      obtain ⟨n, m, G⟩ := good_of c1
      have Ft0 := fit_rows G
      have Ft : Fit n 1000 8 (Sf64.rowsOf n m l) := ⟨Ft0.len, fun r hr z hz => by have := G.all z (rowsOf_mem G.len r hr z hz); omega, by rw [rowsOf_length]; exact G.few⟩
      refine ⟨_, rfl, _, rfl, _, rfl, _, _, rfl, rfl, a, n + 1, m, l, ?_, by omega, by have := G.hi; omega, G.len, by omega, s1.seq hA, fun H3 p s3 hp hR => ?_⟩
      · rw [G.dn]; rfl
      rw [pieces_flat G.len] at hR
      refine ⟨p, n, Sf64.rowsOf n m l, ?_, s3 _ _ (s1 _ _ hT), hR, Ft, G.lo, G.hi, fun H4 p4 hpm4 hR4 => ?_⟩
      · rw [G.dn]; rfl
      have cl := corners_len (n := n) (A := Sf64.rowsOf n m l) G.hi Ft.few hpm4
      refine ⟨p4, _, rfl, hR4, ?_, ?_, fun H5 p5 s5 hp5 h5 => k H5 p5 ?_⟩
      · exact cl.2
      · rw [List.length_map]
        have := cl.1
        omega
      · rw [corners_good G c1]
        exact h5
    · rw [Bool.eq_false_iff.mpr c1]
      refine iteT ⟨rfl, fun p hp => k _ p ?_⟩
      rw [upd_same, corners_bad (Bool.eq_false_iff.mpr c1)]
      rfl
end
end Sd
end

section
set_option Elab.async false
set_option linter.all false
set_option maxRecDepth 100000
set_option maxHeartbeats 2000000
namespace Sd
open PySem PySem.Spec PyProof.Rows L2
theorem all_mk {P : Program} {w : World} {K : PySem.W.Frag} {h : Heap} {mg : Str → Option Value} {fa f_cut f_in_one_row f_is_met f_meets_all f_common_divisor f_in_lowest_terms f_choices f_determinant f_with_b_for f_crossing f_in_order f_corner_points f_corners f_refusal f_counted f_fit_unknowns f_fit_row f_fit_numbers f_fit_rows f_fit_sides : Addr} (X : K.In h) (G : h.Ns mainGlobals mg) (hfa : mg "corners" = some (.ref fa))
    {cI TI : Addr}
    {od_cut an_cut od_in_one_row an_in_one_row od_is_met an_is_met od_meets_all an_meets_all od_common_divisor an_common_divisor od_in_lowest_terms an_in_lowest_terms od_choices an_choices od_determinant an_determinant od_with_b_for an_with_b_for od_crossing an_crossing od_in_order an_in_order od_corner_points an_corner_points od_corners an_corners od_refusal an_refusal od_counted an_counted od_fit_unknowns an_fit_unknowns od_fit_row an_fit_row od_fit_numbers an_fit_numbers od_fit_rows an_fit_rows od_fit_sides an_fit_sides : Option Addr} {sl_cut sl_in_one_row sl_is_met sl_meets_all sl_common_divisor sl_in_lowest_terms sl_choices sl_determinant sl_with_b_for sl_crossing sl_in_order sl_corner_points sl_corners sl_refusal sl_counted sl_fit_unknowns sl_fit_row sl_fit_numbers sl_fit_rows sl_fit_sides : Array (Option Value)} {oc_cut kV_cut dc_cut pm_cut cd_cut ct_cut oc_in_one_row kV_in_one_row dc_in_one_row pm_in_one_row cd_in_one_row ct_in_one_row oc_is_met kV_is_met dc_is_met pm_is_met cd_is_met ct_is_met oc_meets_all kV_meets_all dc_meets_all pm_meets_all cd_meets_all ct_meets_all oc_common_divisor kV_common_divisor dc_common_divisor pm_common_divisor cd_common_divisor ct_common_divisor oc_in_lowest_terms kV_in_lowest_terms dc_in_lowest_terms pm_in_lowest_terms cd_in_lowest_terms ct_in_lowest_terms oc_choices kV_choices dc_choices pm_choices cd_choices ct_choices oc_determinant kV_determinant dc_determinant pm_determinant cd_determinant ct_determinant oc_with_b_for kV_with_b_for dc_with_b_for pm_with_b_for cd_with_b_for ct_with_b_for oc_crossing kV_crossing dc_crossing pm_crossing cd_crossing ct_crossing oc_in_order kV_in_order dc_in_order pm_in_order cd_in_order ct_in_order oc_corner_points kV_corner_points dc_corner_points pm_corner_points cd_corner_points ct_corner_points oc_corners kV_corners dc_corners pm_corners cd_corners ct_corners oc_refusal kV_refusal dc_refusal pm_refusal cd_refusal ct_refusal oc_counted kV_counted dc_counted pm_counted cd_counted ct_counted oc_fit_unknowns kV_fit_unknowns dc_fit_unknowns pm_fit_unknowns cd_fit_unknowns ct_fit_unknowns oc_fit_row kV_fit_row dc_fit_row pm_fit_row cd_fit_row ct_fit_row oc_fit_numbers kV_fit_numbers dc_fit_numbers pm_fit_numbers cd_fit_numbers ct_fit_numbers oc_fit_rows kV_fit_rows dc_fit_rows pm_fit_rows cd_fit_rows ct_fit_rows oc_fit_sides kV_fit_sides dc_fit_sides pm_fit_sides cd_fit_sides ct_fit_sides : Value} {t_MOST_UNKNOWNS t_MOST_SIDES t_MOST_NUMBER : Tok}
    (a_cut : PySem.W.nsIn K mainGlobals "cut" = some (some (.ref f_cut))) (l_cut : K.lookup f_cut = some ⟨oc_cut, od_cut, .func (PySem.W.fnOf "cut" "cut" (defArgs s_cut) (defBody s_cut) (defScope s_cut) .none kV_cut dc_cut pm_cut an_cut cd_cut ct_cut), sl_cut⟩) (c_cut : PySem.W.codeIn K cd_cut "cut" = true) (k_cut : PySem.W.keepIn K (.ref f_cut) = true)
    (a_in_one_row : PySem.W.nsIn K mainGlobals "in_one_row" = some (some (.ref f_in_one_row))) (l_in_one_row : K.lookup f_in_one_row = some ⟨oc_in_one_row, od_in_one_row, .func (PySem.W.fnOf "in_one_row" "in_one_row" (defArgs s_in_one_row) (defBody s_in_one_row) (defScope s_in_one_row) .none kV_in_one_row dc_in_one_row pm_in_one_row an_in_one_row cd_in_one_row ct_in_one_row), sl_in_one_row⟩) (c_in_one_row : PySem.W.codeIn K cd_in_one_row "in_one_row" = true) (k_in_one_row : PySem.W.keepIn K (.ref f_in_one_row) = true)
    (a_is_met : PySem.W.nsIn K mainGlobals "is_met" = some (some (.ref f_is_met))) (l_is_met : K.lookup f_is_met = some ⟨oc_is_met, od_is_met, .func (PySem.W.fnOf "is_met" "is_met" (defArgs s_is_met) (defBody s_is_met) (defScope s_is_met) .none kV_is_met dc_is_met pm_is_met an_is_met cd_is_met ct_is_met), sl_is_met⟩) (c_is_met : PySem.W.codeIn K cd_is_met "is_met" = true) (k_is_met : PySem.W.keepIn K (.ref f_is_met) = true)
    (a_meets_all : PySem.W.nsIn K mainGlobals "meets_all" = some (some (.ref f_meets_all))) (l_meets_all : K.lookup f_meets_all = some ⟨oc_meets_all, od_meets_all, .func (PySem.W.fnOf "meets_all" "meets_all" (defArgs s_meets_all) (defBody s_meets_all) (defScope s_meets_all) .none kV_meets_all dc_meets_all pm_meets_all an_meets_all cd_meets_all ct_meets_all), sl_meets_all⟩) (c_meets_all : PySem.W.codeIn K cd_meets_all "meets_all" = true) (k_meets_all : PySem.W.keepIn K (.ref f_meets_all) = true)
    (a_common_divisor : PySem.W.nsIn K mainGlobals "common_divisor" = some (some (.ref f_common_divisor))) (l_common_divisor : K.lookup f_common_divisor = some ⟨oc_common_divisor, od_common_divisor, .func (PySem.W.fnOf "common_divisor" "common_divisor" (defArgs s_common_divisor) (defBody s_common_divisor) (defScope s_common_divisor) .none kV_common_divisor dc_common_divisor pm_common_divisor an_common_divisor cd_common_divisor ct_common_divisor), sl_common_divisor⟩) (c_common_divisor : PySem.W.codeIn K cd_common_divisor "common_divisor" = true) (k_common_divisor : PySem.W.keepIn K (.ref f_common_divisor) = true)
    (a_in_lowest_terms : PySem.W.nsIn K mainGlobals "in_lowest_terms" = some (some (.ref f_in_lowest_terms))) (l_in_lowest_terms : K.lookup f_in_lowest_terms = some ⟨oc_in_lowest_terms, od_in_lowest_terms, .func (PySem.W.fnOf "in_lowest_terms" "in_lowest_terms" (defArgs s_in_lowest_terms) (defBody s_in_lowest_terms) (defScope s_in_lowest_terms) .none kV_in_lowest_terms dc_in_lowest_terms pm_in_lowest_terms an_in_lowest_terms cd_in_lowest_terms ct_in_lowest_terms), sl_in_lowest_terms⟩) (c_in_lowest_terms : PySem.W.codeIn K cd_in_lowest_terms "in_lowest_terms" = true) (k_in_lowest_terms : PySem.W.keepIn K (.ref f_in_lowest_terms) = true)
    (a_choices : PySem.W.nsIn K mainGlobals "choices" = some (some (.ref f_choices))) (l_choices : K.lookup f_choices = some ⟨oc_choices, od_choices, .func (PySem.W.fnOf "choices" "choices" (defArgs s_choices) (defBody s_choices) (defScope s_choices) .none kV_choices dc_choices pm_choices an_choices cd_choices ct_choices), sl_choices⟩) (c_choices : PySem.W.codeIn K cd_choices "choices" = true) (k_choices : PySem.W.keepIn K (.ref f_choices) = true)
    (a_determinant : PySem.W.nsIn K mainGlobals "determinant" = some (some (.ref f_determinant))) (l_determinant : K.lookup f_determinant = some ⟨oc_determinant, od_determinant, .func (PySem.W.fnOf "determinant" "determinant" (defArgs s_determinant) (defBody s_determinant) (defScope s_determinant) .none kV_determinant dc_determinant pm_determinant an_determinant cd_determinant ct_determinant), sl_determinant⟩) (c_determinant : PySem.W.codeIn K cd_determinant "determinant" = true) (k_determinant : PySem.W.keepIn K (.ref f_determinant) = true)
    (a_with_b_for : PySem.W.nsIn K mainGlobals "with_b_for" = some (some (.ref f_with_b_for))) (l_with_b_for : K.lookup f_with_b_for = some ⟨oc_with_b_for, od_with_b_for, .func (PySem.W.fnOf "with_b_for" "with_b_for" (defArgs s_with_b_for) (defBody s_with_b_for) (defScope s_with_b_for) .none kV_with_b_for dc_with_b_for pm_with_b_for an_with_b_for cd_with_b_for ct_with_b_for), sl_with_b_for⟩) (c_with_b_for : PySem.W.codeIn K cd_with_b_for "with_b_for" = true) (k_with_b_for : PySem.W.keepIn K (.ref f_with_b_for) = true)
    (a_crossing : PySem.W.nsIn K mainGlobals "crossing" = some (some (.ref f_crossing))) (l_crossing : K.lookup f_crossing = some ⟨oc_crossing, od_crossing, .func (PySem.W.fnOf "crossing" "crossing" (defArgs s_crossing) (defBody s_crossing) (defScope s_crossing) .none kV_crossing dc_crossing pm_crossing an_crossing cd_crossing ct_crossing), sl_crossing⟩) (c_crossing : PySem.W.codeIn K cd_crossing "crossing" = true) (k_crossing : PySem.W.keepIn K (.ref f_crossing) = true)
    (a_in_order : PySem.W.nsIn K mainGlobals "in_order" = some (some (.ref f_in_order))) (l_in_order : K.lookup f_in_order = some ⟨oc_in_order, od_in_order, .func (PySem.W.fnOf "in_order" "in_order" (defArgs s_in_order) (defBody s_in_order) (defScope s_in_order) .none kV_in_order dc_in_order pm_in_order an_in_order cd_in_order ct_in_order), sl_in_order⟩) (c_in_order : PySem.W.codeIn K cd_in_order "in_order" = true) (k_in_order : PySem.W.keepIn K (.ref f_in_order) = true)
    (a_corner_points : PySem.W.nsIn K mainGlobals "corner_points" = some (some (.ref f_corner_points))) (l_corner_points : K.lookup f_corner_points = some ⟨oc_corner_points, od_corner_points, .func (PySem.W.fnOf "corner_points" "corner_points" (defArgs s_corner_points) (defBody s_corner_points) (defScope s_corner_points) .none kV_corner_points dc_corner_points pm_corner_points an_corner_points cd_corner_points ct_corner_points), sl_corner_points⟩) (c_corner_points : PySem.W.codeIn K cd_corner_points "corner_points" = true) (k_corner_points : PySem.W.keepIn K (.ref f_corner_points) = true)
    (a_corners : PySem.W.nsIn K mainGlobals "corners" = some (some (.ref f_corners))) (l_corners : K.lookup f_corners = some ⟨oc_corners, od_corners, .func (PySem.W.fnOf "corners" "corners" (defArgs s_corners) (defBody s_corners) (defScope s_corners) .none kV_corners dc_corners pm_corners an_corners cd_corners ct_corners), sl_corners⟩) (c_corners : PySem.W.codeIn K cd_corners "corners" = true) (k_corners : PySem.W.keepIn K (.ref f_corners) = true)
    (a_refusal : PySem.W.nsIn K mainGlobals "refusal" = some (some (.ref f_refusal))) (l_refusal : K.lookup f_refusal = some ⟨oc_refusal, od_refusal, .func (PySem.W.fnOf "refusal" "refusal" (defArgs s_refusal) (defBody s_refusal) (defScope s_refusal) .none kV_refusal dc_refusal pm_refusal an_refusal cd_refusal ct_refusal), sl_refusal⟩) (c_refusal : PySem.W.codeIn K cd_refusal "refusal" = true) (k_refusal : PySem.W.keepIn K (.ref f_refusal) = true)
    (a_counted : PySem.W.nsIn K mainGlobals "counted" = some (some (.ref f_counted))) (l_counted : K.lookup f_counted = some ⟨oc_counted, od_counted, .func (PySem.W.fnOf "counted" "counted" (defArgs s_counted) (defBody s_counted) (defScope s_counted) .none kV_counted dc_counted pm_counted an_counted cd_counted ct_counted), sl_counted⟩) (c_counted : PySem.W.codeIn K cd_counted "counted" = true) (k_counted : PySem.W.keepIn K (.ref f_counted) = true)
    (a_fit_unknowns : PySem.W.nsIn K mainGlobals "fit_unknowns" = some (some (.ref f_fit_unknowns))) (l_fit_unknowns : K.lookup f_fit_unknowns = some ⟨oc_fit_unknowns, od_fit_unknowns, .func (PySem.W.fnOf "fit_unknowns" "fit_unknowns" (defArgs s_fit_unknowns) (defBody s_fit_unknowns) (defScope s_fit_unknowns) .none kV_fit_unknowns dc_fit_unknowns pm_fit_unknowns an_fit_unknowns cd_fit_unknowns ct_fit_unknowns), sl_fit_unknowns⟩) (c_fit_unknowns : PySem.W.codeIn K cd_fit_unknowns "fit_unknowns" = true) (k_fit_unknowns : PySem.W.keepIn K (.ref f_fit_unknowns) = true)
    (a_fit_row : PySem.W.nsIn K mainGlobals "fit_row" = some (some (.ref f_fit_row))) (l_fit_row : K.lookup f_fit_row = some ⟨oc_fit_row, od_fit_row, .func (PySem.W.fnOf "fit_row" "fit_row" (defArgs s_fit_row) (defBody s_fit_row) (defScope s_fit_row) .none kV_fit_row dc_fit_row pm_fit_row an_fit_row cd_fit_row ct_fit_row), sl_fit_row⟩) (c_fit_row : PySem.W.codeIn K cd_fit_row "fit_row" = true) (k_fit_row : PySem.W.keepIn K (.ref f_fit_row) = true)
    (a_fit_numbers : PySem.W.nsIn K mainGlobals "fit_numbers" = some (some (.ref f_fit_numbers))) (l_fit_numbers : K.lookup f_fit_numbers = some ⟨oc_fit_numbers, od_fit_numbers, .func (PySem.W.fnOf "fit_numbers" "fit_numbers" (defArgs s_fit_numbers) (defBody s_fit_numbers) (defScope s_fit_numbers) .none kV_fit_numbers dc_fit_numbers pm_fit_numbers an_fit_numbers cd_fit_numbers ct_fit_numbers), sl_fit_numbers⟩) (c_fit_numbers : PySem.W.codeIn K cd_fit_numbers "fit_numbers" = true) (k_fit_numbers : PySem.W.keepIn K (.ref f_fit_numbers) = true)
    (a_fit_rows : PySem.W.nsIn K mainGlobals "fit_rows" = some (some (.ref f_fit_rows))) (l_fit_rows : K.lookup f_fit_rows = some ⟨oc_fit_rows, od_fit_rows, .func (PySem.W.fnOf "fit_rows" "fit_rows" (defArgs s_fit_rows) (defBody s_fit_rows) (defScope s_fit_rows) .none kV_fit_rows dc_fit_rows pm_fit_rows an_fit_rows cd_fit_rows ct_fit_rows), sl_fit_rows⟩) (c_fit_rows : PySem.W.codeIn K cd_fit_rows "fit_rows" = true) (k_fit_rows : PySem.W.keepIn K (.ref f_fit_rows) = true)
    (a_fit_sides : PySem.W.nsIn K mainGlobals "fit_sides" = some (some (.ref f_fit_sides))) (l_fit_sides : K.lookup f_fit_sides = some ⟨oc_fit_sides, od_fit_sides, .func (PySem.W.fnOf "fit_sides" "fit_sides" (defArgs s_fit_sides) (defBody s_fit_sides) (defScope s_fit_sides) .none kV_fit_sides dc_fit_sides pm_fit_sides an_fit_sides cd_fit_sides ct_fit_sides), sl_fit_sides⟩) (c_fit_sides : PySem.W.codeIn K cd_fit_sides "fit_sides" = true) (k_fit_sides : PySem.W.keepIn K (.ref f_fit_sides) = true)
    (v_MOST_UNKNOWNS : PySem.W.nsIn K mainGlobals "MOST_UNKNOWNS" = some (some (.int 3 t_MOST_UNKNOWNS)))
    (v_MOST_SIDES : PySem.W.nsIn K mainGlobals "MOST_SIDES" = some (some (.int 8 t_MOST_SIDES)))
    (v_MOST_NUMBER : PySem.W.nsIn K mainGlobals "MOST_NUMBER" = some (some (.int 1000 t_MOST_NUMBER)))
    (n_len : PySem.W.nsIn K mainGlobals "len" = some none)
    (n_range : PySem.W.nsIn K mainGlobals "range" = some none)
    (n_all : PySem.W.nsIn K mainGlobals "all" = some none)
    (n_sum : PySem.W.nsIn K mainGlobals "sum" = some none)
    (n_abs : PySem.W.nsIn K mainGlobals "abs" = some none)
    (n_sorted : PySem.W.nsIn K mainGlobals "sorted" = some none)
    (e_in_order : cd_in_order = .ref cI)
    : ∃ fd : FuncData, (∀ (s : Shared) (us : List Value), us.length = (["d", "sides"] : List Str).length → BindsTo s fd ⟨us, []⟩ ((["d", "sides"] : List Str).zip us)) ∧ ∀ base : Heap, K.In base → base.Ns mainGlobals mg → PySem.W.CodeHd base cI TI → Ky.BM mg base → FnOk P w K mg base CX0 7 fa fd ["d", "sides"] (spCorners TI K) := by
  have e := hfa.symm.trans (PySem.W.mg_of X G a_corners)
  cases e
  have F_cut := fun_mk (st := s_cut) l_cut c_cut k_cut
  have b_cut := F_cut.binds (ps := ["row", "size"]) fun _ _ _ _ _ _ us hl => match us, hl with | [_, _], _ => rfl
  have m_cut := PySem.W.mg_of X G a_cut
  have F_in_one_row := fun_mk (st := s_in_one_row) l_in_one_row c_in_one_row k_in_one_row
  have b_in_one_row := F_in_one_row.binds (ps := ["rows"]) fun _ _ _ _ _ _ us hl => match us, hl with | [_], _ => rfl
  have m_in_one_row := PySem.W.mg_of X G a_in_one_row
  have F_is_met := fun_mk (st := s_is_met) l_is_met c_is_met k_is_met
  have b_is_met := F_is_met.binds (ps := ["side", "q", "x"]) fun _ _ _ _ _ _ us hl => match us, hl with | [_, _, _], _ => rfl
  have m_is_met := PySem.W.mg_of X G a_is_met
  have F_meets_all := fun_mk (st := s_meets_all) l_meets_all c_meets_all k_meets_all
  have b_meets_all := F_meets_all.binds (ps := ["sides", "q", "x"]) fun _ _ _ _ _ _ us hl => match us, hl with | [_, _, _], _ => rfl
  have m_meets_all := PySem.W.mg_of X G a_meets_all
  have F_common_divisor := fun_mk (st := s_common_divisor) l_common_divisor c_common_divisor k_common_divisor
  have b_common_divisor := F_common_divisor.binds (ps := ["one", "other"]) fun _ _ _ _ _ _ us hl => match us, hl with | [_, _], _ => rfl
  have m_common_divisor := PySem.W.mg_of X G a_common_divisor
  have F_in_lowest_terms := fun_mk (st := s_in_lowest_terms) l_in_lowest_terms c_in_lowest_terms k_in_lowest_terms
  have b_in_lowest_terms := F_in_lowest_terms.binds (ps := ["row"]) fun _ _ _ _ _ _ us hl => match us, hl with | [_], _ => rfl
  have m_in_lowest_terms := PySem.W.mg_of X G a_in_lowest_terms
  have F_choices := fun_mk (st := s_choices) l_choices c_choices k_choices
  have b_choices := F_choices.binds (ps := ["rows", "many"]) fun _ _ _ _ _ _ us hl => match us, hl with | [_, _], _ => rfl
  have m_choices := PySem.W.mg_of X G a_choices
  have F_determinant := fun_mk (st := s_determinant) l_determinant c_determinant k_determinant
  have b_determinant := F_determinant.binds (ps := ["square"]) fun _ _ _ _ _ _ us hl => match us, hl with | [_], _ => rfl
  have m_determinant := PySem.W.mg_of X G a_determinant
  have F_with_b_for := fun_mk (st := s_with_b_for) l_with_b_for c_with_b_for k_with_b_for
  have b_with_b_for := F_with_b_for.binds (ps := ["k", "side"]) fun _ _ _ _ _ _ us hl => match us, hl with | [_, _], _ => rfl
  have m_with_b_for := PySem.W.mg_of X G a_with_b_for
  have F_crossing := fun_mk (st := s_crossing) l_crossing c_crossing k_crossing
  have b_crossing := F_crossing.binds (ps := ["d", "sides"]) fun _ _ _ _ _ _ us hl => match us, hl with | [_, _], _ => rfl
  have m_crossing := PySem.W.mg_of X G a_crossing
  have F_in_order := fun_mk (st := s_in_order) l_in_order c_in_order k_in_order
  have b_in_order := F_in_order.binds (ps := ["d", "points"]) fun _ _ _ _ _ _ us hl => match us, hl with | [_, _], _ => rfl
  have m_in_order := PySem.W.mg_of X G a_in_order
  have F_corner_points := fun_mk (st := s_corner_points) l_corner_points c_corner_points k_corner_points
  have b_corner_points := F_corner_points.binds (ps := ["d", "sides"]) fun _ _ _ _ _ _ us hl => match us, hl with | [_, _], _ => rfl
  have m_corner_points := PySem.W.mg_of X G a_corner_points
  have F_corners := fun_mk (st := s_corners) l_corners c_corners k_corners
  have b_corners := F_corners.binds (ps := ["d", "sides"]) fun _ _ _ _ _ _ us hl => match us, hl with | [_, _], _ => rfl
  have m_corners := PySem.W.mg_of X G a_corners
  have F_refusal := fun_mk (st := s_refusal) l_refusal c_refusal k_refusal
  have b_refusal := F_refusal.binds (ps := []) fun _ _ _ _ _ _ us hl => match us, hl with | [], _ => rfl
  have m_refusal := PySem.W.mg_of X G a_refusal
  have F_counted := fun_mk (st := s_counted) l_counted c_counted k_counted
  have b_counted := F_counted.binds (ps := ["rows"]) fun _ _ _ _ _ _ us hl => match us, hl with | [_], _ => rfl
  have m_counted := PySem.W.mg_of X G a_counted
  have F_fit_unknowns := fun_mk (st := s_fit_unknowns) l_fit_unknowns c_fit_unknowns k_fit_unknowns
  have b_fit_unknowns := F_fit_unknowns.binds (ps := ["d"]) fun _ _ _ _ _ _ us hl => match us, hl with | [_], _ => rfl
  have m_fit_unknowns := PySem.W.mg_of X G a_fit_unknowns
  have F_fit_row := fun_mk (st := s_fit_row) l_fit_row c_fit_row k_fit_row
  have b_fit_row := F_fit_row.binds (ps := ["row", "size", "low", "high"]) fun _ _ _ _ _ _ us hl => match us, hl with | [_, _, _, _], _ => rfl
  have m_fit_row := PySem.W.mg_of X G a_fit_row
  have F_fit_numbers := fun_mk (st := s_fit_numbers) l_fit_numbers c_fit_numbers k_fit_numbers
  have b_fit_numbers := F_fit_numbers.binds (ps := ["row", "size"]) fun _ _ _ _ _ _ us hl => match us, hl with | [_, _], _ => rfl
  have m_fit_numbers := PySem.W.mg_of X G a_fit_numbers
  have F_fit_rows := fun_mk (st := s_fit_rows) l_fit_rows c_fit_rows k_fit_rows
  have b_fit_rows := F_fit_rows.binds (ps := ["row", "size", "fewest", "most"]) fun _ _ _ _ _ _ us hl => match us, hl with | [_, _, _, _], _ => rfl
  have m_fit_rows := PySem.W.mg_of X G a_fit_rows
  have F_fit_sides := fun_mk (st := s_fit_sides) l_fit_sides c_fit_sides k_fit_sides
  have b_fit_sides := F_fit_sides.binds (ps := ["d", "sides"]) fun _ _ _ _ _ _ us hl => match us, hl with | [_, _], _ => rfl
  have m_fit_sides := PySem.W.mg_of X G a_fit_sides
  have g_MOST_UNKNOWNS := PySem.W.mg_of X G v_MOST_UNKNOWNS
  have g_MOST_SIDES := PySem.W.mg_of X G v_MOST_SIDES
  have g_MOST_NUMBER := PySem.W.mg_of X G v_MOST_NUMBER
  have z_len := PySem.W.mg_none_of X G n_len
  have z_range := PySem.W.mg_none_of X G n_range
  have z_all := PySem.W.mg_none_of X G n_all
  have z_sum := PySem.W.mg_none_of X G n_sum
  have z_abs := PySem.W.mg_none_of X G n_abs
  have z_sorted := PySem.W.mg_none_of X G n_sorted
  refine ⟨PySem.W.fnOf "corners" "corners" (defArgs s_corners) (defBody s_corners) (defScope s_corners) .none kV_corners dc_corners pm_corners an_corners cd_corners ct_corners, fun s us hu => match us, hu with | [_, _], _ => .of_eq rfl, fun base _ _ hC hB => ?_⟩
  have GN : FnOk P w K mg base CX0 2 _ _ ["row", "size"] (spNumbers K) := ok_numbers g_MOST_NUMBER (ok_row z_len z_all F_fit_row) m_fit_row k_fit_row b_fit_row F_fit_numbers
  have GFr : FnOk P w K mg base CX0 3 _ _ ["row", "size", "fewest", "most"] (spFitRows K) := ok_fitrows z_len m_fit_numbers k_fit_numbers GN b_fit_numbers F_fit_rows
  have GS : FnOk P w K mg base CX0 4 _ _ ["d", "sides"] (spSides K) := ok_sides g_MOST_SIDES (ok_unknowns g_MOST_UNKNOWNS F_fit_unknowns) GFr m_fit_unknowns m_fit_rows k_fit_unknowns k_fit_rows b_fit_unknowns b_fit_rows F_fit_sides
  have GX : FnOk P w K mg base CX0 5 _ _ ["d", "sides"] (spCross K) := ok_cross z_range (ok_det z_len z_range m_determinant b_determinant F_determinant) (ok_withb F_with_b_for) (ok_low z_abs m_common_divisor F_common_divisor b_common_divisor F_in_lowest_terms) m_determinant m_with_b_for m_in_lowest_terms k_determinant k_with_b_for k_in_lowest_terms b_determinant b_with_b_for b_in_lowest_terms F_crossing
  have GO : FnOk P w K mg base CX0 5 _ _ ["d", "points"] (spOrder TI K) := ok_order l_in_order c_in_order e_in_order hC hB z_sorted
  have GP : FnOk P w K mg base CX0 6 _ _ ["d", "sides"] (spPoints TI K) := ok_cpoints (ok_choices z_len F_choices) GX (ok_meetsall z_len z_sum z_range z_all m_is_met F_is_met b_is_met F_meets_all) GO m_choices m_crossing m_meets_all m_in_order k_choices k_crossing k_meets_all k_in_order b_choices b_crossing b_meets_all b_in_order F_corner_points
  exact ok_corners GS (ok_refusal F_refusal) GP (ok_cut z_len z_range F_cut) (ok_counted z_len m_in_one_row F_in_one_row b_in_one_row F_counted) m_fit_sides m_refusal m_corner_points m_cut m_counted k_fit_sides k_refusal k_corner_points k_cut k_counted b_fit_sides b_refusal b_corner_points b_cut b_counted F_corners
end Sd
open PySem PySem.W PyProof.Rows
set_option maxRecDepth 100000 in
set_option maxHeartbeats 0 in
theorem PySem.Challenge.cw_sidesleft_s05_corners_holds : PySem.Challenge.rw_sidesleft_s05_corners.Holds := by
  w_on; k_headS; (case hw => exact ⟨[.int 1, .list []], by decide +kernel, by decide +kernel⟩)
  k_fillS
  refine Ky.walk_specT (r := PySem.Challenge.rw_sidesleft_s05_corners) (k := 7) (CX := L2.CX0) (ps := ["d", "sides"]) (sp := Sd.spCorners) (x := "in_order") (c := 76) (T := 72) (by decide +kernel) rfl rfl ⟨rfl, by decide, by decide⟩ (fun w h Y => PySem.W.kIn_of Y) rfl ?htab ?hKT ?F ?S (fun _ _ _ _ z => z)
  case htab => intro w; kernel_rfl
  case hKT => intro w; kernel_rfl
  case F =>
    intro w mg fa h Y KX G hmg
    refine' Sd.all_mk KX G hmg ?a_cut ?l_cut ?c_cut ?k_cut ?a_in_one_row ?l_in_one_row ?c_in_one_row ?k_in_one_row ?a_is_met ?l_is_met ?c_is_met ?k_is_met ?a_meets_all ?l_meets_all ?c_meets_all ?k_meets_all ?a_common_divisor ?l_common_divisor ?c_common_divisor ?k_common_divisor ?a_in_lowest_terms ?l_in_lowest_terms ?c_in_lowest_terms ?k_in_lowest_terms ?a_choices ?l_choices ?c_choices ?k_choices ?a_determinant ?l_determinant ?c_determinant ?k_determinant ?a_with_b_for ?l_with_b_for ?c_with_b_for ?k_with_b_for ?a_crossing ?l_crossing ?c_crossing ?k_crossing ?a_in_order ?l_in_order ?c_in_order ?k_in_order ?a_corner_points ?l_corner_points ?c_corner_points ?k_corner_points ?a_corners ?l_corners ?c_corners ?k_corners ?a_refusal ?l_refusal ?c_refusal ?k_refusal ?a_counted ?l_counted ?c_counted ?k_counted ?a_fit_unknowns ?l_fit_unknowns ?c_fit_unknowns ?k_fit_unknowns ?a_fit_row ?l_fit_row ?c_fit_row ?k_fit_row ?a_fit_numbers ?l_fit_numbers ?c_fit_numbers ?k_fit_numbers ?a_fit_rows ?l_fit_rows ?c_fit_rows ?k_fit_rows ?a_fit_sides ?l_fit_sides ?c_fit_sides ?k_fit_sides ?v_MOST_UNKNOWNS ?v_MOST_SIDES ?v_MOST_NUMBER ?n_len ?n_range ?n_all ?n_sum ?n_abs ?n_sorted ?e_in_order
    (case a_cut => k_is); (case l_cut => k_is); (case c_cut => k_is); (case k_cut => k_is); (case a_in_one_row => k_is); (case l_in_one_row => k_is)
    (case c_in_one_row => k_is); (case k_in_one_row => k_is); (case a_is_met => k_is); (case l_is_met => k_is); (case c_is_met => k_is); (case k_is_met => k_is)
    (case a_meets_all => k_is); (case l_meets_all => k_is); (case c_meets_all => k_is); (case k_meets_all => k_is); (case a_common_divisor => k_is); (case l_common_divisor => k_is)
    (case c_common_divisor => k_is); (case k_common_divisor => k_is); (case a_in_lowest_terms => k_is); (case l_in_lowest_terms => k_is); (case c_in_lowest_terms => k_is); (case k_in_lowest_terms => k_is)
    (case a_choices => k_is); (case l_choices => k_is); (case c_choices => k_is); (case k_choices => k_is); (case a_determinant => k_is); (case l_determinant => k_is)
    (case c_determinant => k_is); (case k_determinant => k_is); (case a_with_b_for => k_is); (case l_with_b_for => k_is); (case c_with_b_for => k_is); (case k_with_b_for => k_is)
    (case a_crossing => k_is); (case l_crossing => k_is); (case c_crossing => k_is); (case k_crossing => k_is); (case a_in_order => k_is); (case l_in_order => k_is)
    (case c_in_order => k_is); (case k_in_order => k_is); (case a_corner_points => k_is); (case l_corner_points => k_is); (case c_corner_points => k_is); (case k_corner_points => k_is)
    (case a_corners => k_is); (case l_corners => k_is); (case c_corners => k_is); (case k_corners => k_is); (case a_refusal => k_is); (case l_refusal => k_is)
    (case c_refusal => k_is); (case k_refusal => k_is); (case a_counted => k_is); (case l_counted => k_is); (case c_counted => k_is); (case k_counted => k_is)
    (case a_fit_unknowns => k_is); (case l_fit_unknowns => k_is); (case c_fit_unknowns => k_is); (case k_fit_unknowns => k_is); (case a_fit_row => k_is); (case l_fit_row => k_is)
    (case c_fit_row => k_is); (case k_fit_row => k_is); (case a_fit_numbers => k_is); (case l_fit_numbers => k_is); (case c_fit_numbers => k_is); (case k_fit_numbers => k_is)
    (case a_fit_rows => k_is); (case l_fit_rows => k_is); (case c_fit_rows => k_is); (case k_fit_rows => k_is); (case a_fit_sides => k_is); (case l_fit_sides => k_is)
    (case c_fit_sides => k_is); (case k_fit_sides => k_is); (case v_MOST_UNKNOWNS => k_is); (case v_MOST_SIDES => k_is); (case v_MOST_NUMBER => k_is); (case n_len => k_is)
    (case n_range => k_is); (case n_all => k_is); (case n_sum => k_is); (case n_abs => k_is); (case n_sorted => k_is); (case e_in_order => exact rfl)
  case S =>
    intro K H xs a hO hTn hwi hask hx
    obtain ⟨d, l, u⟩ := a
    cases hx with
    | cons h0 hx =>
    cases hx with
    | cons h1 hx =>
    cases hx
    cases h0
    cases h1 with
    | lst hs1 ha1 =>
    have e1 := L2.ints_dw l _ ha1
    subst e1
    have w : (_ && ((Codec.inLen 0 60 l && _) && _)) = true := hwi
    simp only [Bool.and_eq_true] at w
    exact ⟨d, _, l, rfl, L2.upd_same, (Sd.same_new hTn).seq hs1, (Codec.inNat_iff.mp w.2.1.1).2, fun H' p hp => .lst (L2.SqL.of hp) (L2.dw_ints _)⟩
#print axioms PySem.Challenge.cw_sidesleft_s05_corners_holds

end
